import PyProof.Rows.All
import Wide.All
import OpenK.AllK
import Wide.FinOn
import HandS.Base
import HandS.Call
import HandS.List
import HandS.ForMost
import HandS.Flow
import HandS.IsInst
import HandS.Star
import HandS.Steps
import PySem.Challenge.RW_stridewell_k03_whole_what_is_guessed
set_option autoImplicit false
namespace Sw
/-- a guesser as it is told -/
inductive G where
  | non
  | next (n : Int)
  | stride (n : Int)
  | pairs (n : Int)
  | both (a b : G)
def G.depth : G → Nat
  | .both a b => max a.depth b.depth + 1
  | _ => 0
def G.ok : G → Prop
  | .non => True
  | .next n => 1 ≤ n ∧ n ≤ 3
  | .stride n => 1 ≤ n ∧ n ≤ 3
  | .pairs n => 1 ≤ n ∧ n ≤ 2
  | .both a b => a.ok ∧ b.ok
/-- the state of a guesser that is told places -/
inductive S where
  | silent
  | neigh (many : Int)
  | strid (times : Int) (last : Option Int) (stride same : Int)
  | pairs (many : Int) (last : Option Int) (fol : Int → List Int)
  | both (a b : S)
def begun : G → S
  | .non => .silent
  | .next n => .neigh n
  | .stride n => .strid n none 0 0
  | .pairs n => .pairs n none fun _ => []
  | .both a b => .both (begun a) (begun b)
def nexts (p m : Int) : List Int := (List.range m.toNat).map fun (i : Nat) => p + (1 + (i : Int))
/-- the stride and how many were the same, behind one place more -/
def strideOf (last : Option Int) (s c p : Int) : Int × Int := match last with
  | none => (s, c)
  | some q => (p - q, if p - q = s then c + 1 else 1)
def behind (fol : Int → List Int) (m q p : Int) : List Int := (p :: (fol q).filter (fun x => decide (x ≠ p))).take m.toNat
def putF (fol : Int → List Int) (m q p : Int) : Int → List Int := fun k => if k = q then behind fol m q p else fol k
def folOf (last : Option Int) (fol : Int → List Int) (m p : Int) : Int → List Int := match last with
  | none => fol
  | some q => putF fol m q p
def strideSays (t p : Int) (sc : Int × Int) : List Int := if sc.1 = 0 ∨ sc.2 < t then [] else [p + sc.1]
def joined (x y : List Int) : List Int := x ++ y.filter (fun v => decide (v ∉ x))
def S.next : S → Int → S
  | .silent, _ => .silent
  | .neigh m, _ => .neigh m
  | .strid t l s c, p => .strid t (some p) (strideOf l s c p).1 (strideOf l s c p).2
  | .pairs m l f, p => .pairs m (some p) (folOf l f m p)
  | .both a b, p => .both (a.next p) (b.next p)
def S.says : S → Int → List Int
  | .silent, _ => []
  | .neigh m, p => nexts p m
  | .strid t l s c, p => strideSays t p (strideOf l s c p)
  | .pairs m l f, p => folOf l f m p p
  | .both a b, p => joined (a.says p) (b.says p)
def S.after (s : S) (l : List Int) : S := l.foldl S.next s
theorem after_nil (s : S) : s.after [] = s := rfl
theorem after_snoc (s : S) (l : List Int) (p : Int) : s.after (l ++ [p]) = (s.after l).next p := by
  unfold S.after
  rw [List.foldl_append]; rfl
def told (g : G) (l : List Int) : List (List Int) := (List.range l.length).map fun k => ((begun g).after (l.take k)).says (l.getD k 0)

/-! ### looking back -/
/-- the first of each, in order -/
def firsts : List Int → List Int
  | [] => []
  | x :: r => x :: (firsts r).filter (fun y => decide (y ≠ x))
theorem mem_firsts : ∀ {l : List Int} {x : Int}, x ∈ firsts l ↔ x ∈ l
  | [], _ => Iff.rfl
  | a :: r, x => by
    unfold firsts
    rw [List.mem_cons, List.mem_cons, List.mem_filter, mem_firsts]
    by_cases h : x = a
    · simp [h]
    · simp [h]
theorem firsts_nodup : ∀ l : List Int, (firsts l).Nodup
  | [] => List.nodup_nil
  | a :: r => by
    unfold firsts
    refine List.nodup_cons.mpr ⟨fun h => ?_, (firsts_nodup r).filter _⟩
    have := (List.mem_filter.mp h).2
    simp at this
/-- one more behind: taken if it is not there -/
def more (acc : List Int) (x : Int) : List Int := if x ∈ acc then acc else acc ++ [x]
theorem firsts_snoc : ∀ (l : List Int) (x : Int), firsts (l ++ [x]) = more (firsts l) x
  | [], x => rfl
  | a :: r, x => by
    show a :: (firsts (r ++ [x])).filter _ = more (a :: (firsts r).filter _) x
    rw [firsts_snoc r x]
    unfold more
    by_cases hx : x ∈ firsts r
    · rw [if_pos hx]
      by_cases e : x = a
      · rw [if_pos (by rw [e]; exact List.mem_cons_self)]
      · rw [if_pos (List.mem_cons_of_mem _ (List.mem_filter.mpr ⟨hx, by simp [e]⟩))]
    · rw [if_neg hx, List.filter_append]
      by_cases e : x = a
      · rw [if_pos (by rw [e]; exact List.mem_cons_self)]
        simp [e]
      · have : x ∉ a :: (firsts r).filter (fun y => decide (y ≠ a)) := by
          rw [List.mem_cons]
          rintro (h | h)
          · exact e h
          · exact hx (List.mem_filter.mp h).1
        rw [if_neg this]
        simp [e]
/-- what came behind k, the latest first: of the places, the last one first -/
def followers (k : Int) : List Int → List Int
  | p :: q :: r => if q = k then p :: followers k (q :: r) else followers k (q :: r)
  | _ => []
/-- the strides, the last one first, of the places, the last one first -/
def strides : List Int → List Int
  | p :: q :: r => (p - q) :: strides (q :: r)
  | _ => []
theorem strides_length : ∀ l : List Int, (strides l).length = l.length - 1
  | [] => rfl
  | [_] => rfl
  | p :: q :: r => by
    show (strides (q :: r)).length + 1 = _
    rw [strides_length (q :: r)]
    simp
def run : List Int → Int × Nat
  | [] => (0, 0)
  | d :: r => (d, if d = (run r).1 then (run r).2 + 1 else 1)
/-- so many strides, the last ones, are the same -/
theorem run_ge : ∀ (l : List Int) (t : Nat), 1 ≤ t → (t ≤ (run l).2 ↔ t ≤ l.length ∧ l.take t = List.replicate t (run l).1)
  | [], t, h => by
    constructor
    · intro q
      have : t ≤ 0 := q
      omega
    · rintro ⟨q, _⟩
      exact q
  | d :: r, t, h => by
    obtain ⟨u, rfl⟩ : ∃ u, t = u + 1 := ⟨t - 1, by omega⟩
    show u + 1 ≤ (if d = (run r).1 then (run r).2 + 1 else 1) ↔ u + 1 ≤ r.length + 1 ∧ d :: r.take u = d :: List.replicate u d
    by_cases hu : u = 0
    · subst hu
      constructor
      · intro _
        exact ⟨by omega, by simp⟩
      · intro _
        split <;> omega
    · have ih := run_ge r u (by omega)
      by_cases e : d = (run r).1
      · rw [if_pos e]
        rw [← e] at ih
        constructor
        · intro q
          have z := ih.mp (by omega)
          exact ⟨by omega, by rw [z.2]⟩
        · rintro ⟨q1, q2⟩
          have z := ih.mpr ⟨by omega, (List.cons.inj q2).2⟩
          omega
      · rw [if_neg e]
        constructor
        · intro q
          omega
        · rintro ⟨q1, q2⟩
          exfalso
          cases r with
          | nil =>
            have : u + 1 ≤ 1 := q1
            omega
          | cons a r =>
            obtain ⟨v, rfl⟩ : ∃ v, u = v + 1 := ⟨u - 1, by omega⟩
            have z := (List.cons.inj q2).2
            have : a = d := (List.cons.inj z).1
            exact e this.symm
/-- the law's look back: of the places, the last one first -/
def looked : G → List Int → List Int
  | _, [] => []
  | .non, _ => []
  | .next n, p :: _ => nexts p n
  | .stride n, p :: r => if n.toNat ≤ (strides (p :: r)).length ∧ (strides (p :: r)).take n.toNat = List.replicate n.toNat ((strides (p :: r)).headD 0) ∧ (strides (p :: r)).headD 0 ≠ 0 then [p + (strides (p :: r)).headD 0] else []
  | .pairs n, p :: r => (firsts (followers p (p :: r))).take n.toNat
  | .both a b, p :: r => joined (looked a (p :: r)) (looked b (p :: r))
theorem run_head : ∀ l : List Int, (run l).1 = l.headD 0
  | [] => rfl
  | _ :: _ => rfl
theorem filter_take {l : List Int} (nd : l.Nodup) (p : Int) : ∀ m : Nat, ((p :: (l.take m).filter (fun x => decide (x ≠ p))).take m) = (p :: l.filter (fun x => decide (x ≠ p))).take m := by
  have key : ∀ (l : List Int), l.Nodup → ∀ m : Nat, ((l.take (m + 1)).filter (fun x => decide (x ≠ p))).take m = (l.filter (fun x => decide (x ≠ p))).take m := by
    intro l
    induction l with
    | nil => intro _ m; simp
    | cons a r ih =>
      intro nd m
      obtain ⟨na, nr⟩ := List.nodup_cons.mp nd
      show ((a :: r.take m).filter _).take m = _
      rw [List.filter_cons, List.filter_cons]
      by_cases e : a = p
      · subst e
        rw [if_neg (by simp), if_neg (by simp)]
        have h1 : r.filter (fun x => decide (x ≠ a)) = r := List.filter_eq_self.mpr fun x hx => by
          have : x ≠ a := fun z => na (z ▸ hx)
          simp [this]
        have h2 : (r.take m).filter (fun x => decide (x ≠ a)) = r.take m := List.filter_eq_self.mpr fun x hx => by
          have : x ≠ a := fun z => na (z ▸ List.mem_of_mem_take hx)
          simp [this]
        rw [h1, h2, List.take_take, Nat.min_self]
      · rw [if_pos (by simp [e]), if_pos (by simp [e])]
        cases m with
        | zero => rfl
        | succ m =>
          rw [List.take_succ_cons, List.take_succ_cons, ih nr m]
  intro m
  cases m with
  | zero => rfl
  | succ m => rw [List.take_succ_cons, List.take_succ_cons, key l nd m]
/-- the guesser's state behind places, the last one first -/
def Stands : G → List Int → S → Prop
  | .non, _, s => s = .silent
  | .next n, _, s => s = .neigh n
  | .stride n, l, s => s = .strid n l.head? (run (strides l)).1 ((run (strides l)).2 : Int)
  | .pairs n, l, s => ∃ f, s = .pairs n l.head? f ∧ ∀ k, f k = (firsts (followers k l)).take n.toNat
  | .both a b, l, s => ∃ x y, s = .both x y ∧ Stands a l x ∧ Stands b l y
theorem stands_begun : ∀ g : G, Stands g [] (begun g)
  | .non => rfl
  | .next _ => rfl
  | .stride _ => rfl
  | .pairs _ => ⟨_, rfl, fun k => by simp [followers, firsts]⟩
  | .both a b => ⟨_, _, rfl, stands_begun a, stands_begun b⟩
theorem stride_step (l : List Int) (p : Int) : strideOf l.head? (run (strides l)).1 ((run (strides l)).2 : Int) p = ((run (strides (p :: l))).1, ((run (strides (p :: l))).2 : Int)) := by
  cases l with
  | nil => rfl
  | cons q r =>
    show (p - q, if p - q = (run (strides (q :: r))).1 then ((run (strides (q :: r))).2 : Int) + 1 else 1) = (p - q, ((if p - q = (run (strides (q :: r))).1 then (run (strides (q :: r))).2 + 1 else 1 : Nat) : Int))
    split <;> simp
theorem fol_step {n : Int} {l : List Int} {f : Int → List Int} (h : ∀ k, f k = (firsts (followers k l)).take n.toNat) (p k : Int) : folOf l.head? f n p k = (firsts (followers k (p :: l))).take n.toNat := by
  cases l with
  | nil =>
    show f k = _
    rw [h k]
    rfl
  | cons q r =>
    show (if k = q then behind f n q p else f k) = (firsts (if q = k then p :: followers k (q :: r) else followers k (q :: r))).take n.toNat
    by_cases e : k = q
    · subst e
      rw [if_pos rfl, if_pos rfl]
      unfold behind
      rw [h k]
      exact filter_take (firsts_nodup _) p n.toNat
    · rw [if_neg e, if_neg (fun z => e z.symm), h k]
theorem stands_next : ∀ {g : G} {l : List Int} {s : S} (p : Int), Stands g l s → Stands g (p :: l) (s.next p)
  | .non, _, _, _, h => by cases h; rfl
  | .next _, _, _, _, h => by cases h; rfl
  | .stride n, l, _, p, h => by
    cases h
    show S.strid _ _ _ _ = S.strid _ _ _ _
    rw [stride_step]
    rfl
  | .pairs n, l, _, p, h => by
    obtain ⟨f, rfl, hf⟩ := h
    exact ⟨_, rfl, fun k => fol_step hf p k⟩
  | .both a b, l, _, p, h => by
    obtain ⟨x, y, rfl, hx, hy⟩ := h
    exact ⟨_, _, rfl, stands_next p hx, stands_next p hy⟩
theorem stands_says : ∀ {g : G} {l : List Int} {s : S} (p : Int), g.ok → Stands g l s → s.says p = looked g (p :: l)
  | .non, _, _, _, _, h => by cases h; rfl
  | .next _, _, _, _, _, h => by cases h; rfl
  | .stride n, l, _, p, ok, h => by
    cases h
    show strideSays n p (strideOf l.head? _ _ p) = if _ then _ else _
    rw [stride_step]
    have z := run_ge (strides (p :: l)) n.toNat (by have := ok.1; omega)
    rw [run_head] at z
    unfold strideSays
    rw [run_head]
    show (if (strides (p :: l)).headD 0 = 0 ∨ ((run (strides (p :: l))).2 : Int) < n then [] else [p + (strides (p :: l)).headD 0]) = _
    have hn : 1 ≤ n := ok.1
    by_cases c : (strides (p :: l)).headD 0 = 0 ∨ ((run (strides (p :: l))).2 : Int) < n
    · rw [if_pos c, if_neg]
      rintro ⟨h1, h2, h3⟩
      have := z.mpr ⟨h1, h2⟩
      rcases c with c | c
      · exact h3 c
      · omega
    · rw [if_neg c, if_pos]
      have c1 : ¬ (strides (p :: l)).headD 0 = 0 := fun q => c (.inl q)
      have c2 : ¬ ((run (strides (p :: l))).2 : Int) < n := fun q => c (.inr q)
      have := z.mp (by omega)
      exact ⟨this.1, this.2, c1⟩
  | .pairs n, l, _, p, _, h => by
    obtain ⟨f, rfl, hf⟩ := h
    exact fol_step hf p p
  | .both a b, l, _, p, ok, h => by
    obtain ⟨x, y, rfl, hx, hy⟩ := h
    show joined _ _ = joined _ _
    rw [stands_says p ok.1 hx, stands_says p ok.2 hy]
theorem stands_after (g : G) : ∀ (l : List Int) (m : List Int) (s : S), Stands g m s → Stands g (l.reverse ++ m) (s.after l)
  | [], m, s, h => h
  | p :: r, m, s, h => by
    have := stands_after g r (p :: m) (s.next p) (stands_next p h)
    rw [List.reverse_cons, List.append_assoc]
    exact this
theorem says_looked {g : G} (ok : g.ok) (l : List Int) (p : Int) : ((begun g).after l).says p = looked g (l ++ [p]).reverse := by
  have h := stands_after g l [] (begun g) (stands_begun g)
  rw [List.append_nil] at h
  rw [stands_says p ok h, List.reverse_append]
  rfl
end Sw
set_option autoImplicit false
namespace Sw
/-- the strides, the first one first -/
def fstr : List Int → List Int
  | a :: b :: r => (b - a) :: fstr (b :: r)
  | _ => []
theorem strides_snoc (x y : Int) : ∀ l : List Int, strides (l ++ [y, x]) = strides (l ++ [y]) ++ [y - x]
  | [] => rfl
  | [a] => rfl
  | a :: b :: l => by
    have ih := strides_snoc x y (b :: l)
    show (a - b) :: strides (b :: l ++ [y, x]) = (a - b) :: (strides (b :: l ++ [y]) ++ [y - x])
    rw [ih]
theorem fstr_rev : ∀ l : List Int, fstr l = (strides l.reverse).reverse
  | [] => rfl
  | [_] => rfl
  | a :: b :: r => by
    have ih := fstr_rev (b :: r)
    show (b - a) :: fstr (b :: r) = _
    rw [ih]
    have e : (a :: b :: r).reverse = r.reverse ++ [b, a] := by simp
    rw [e, strides_snoc, List.reverse_append]
    have e2 : (b :: r).reverse = r.reverse ++ [b] := by simp
    rw [e2]
    rfl
theorem fstr_range : ∀ l : List Int, (List.range (l.length - 1)).map (fun i => l.getD (1 + i) 0 - l.getD i 0) = fstr l
  | [] => rfl
  | [_] => rfl
  | a :: b :: r => by
    have ih := fstr_range (b :: r)
    show (List.range (r.length + 1)).map _ = (b - a) :: fstr (b :: r)
    rw [← ih, List.range_succ_eq_map, List.map_cons, List.map_map]
    congr 1
theorem last_some (l : List Int) (n : Nat) : l.reverse.drop (l.length - n) = (l.take n).reverse := by
  rw [List.drop_reverse]
  by_cases h : n ≤ l.length
  · rw [show l.length - (l.length - n) = n by omega]
  · rw [show l.length - (l.length - n) = l.length by omega, List.take_of_length_le (Nat.le_refl _), List.take_of_length_le (by omega)]
/-- all alike: read from behind -/
theorem all_alike {S : List Int} {n : Nat} (h : S.length = n) (x : Int) : S.reverse = List.replicate n x ↔ S = List.replicate n x := by
  constructor
  · intro e
    have := congrArg List.reverse e
    rwa [List.reverse_reverse, List.reverse_replicate] at this
  · intro e
    rw [e, List.reverse_replicate]
theorem followers_snoc (k x y : Int) : ∀ l : List Int, followers k (l ++ [y, x]) = followers k (l ++ [y]) ++ (if x = k then [y] else [])
  | [] => by
    show (if x = k then [y] else []) = [] ++ _
    rw [List.nil_append]
  | [a] => by
    show (if y = k then a :: followers k [y, x] else followers k [y, x]) = (if y = k then a :: [] else []) ++ _
    show (if y = k then a :: (if x = k then [y] else []) else (if x = k then [y] else [])) = _
    by_cases h : y = k
    · rw [if_pos h, if_pos h]; rfl
    · rw [if_neg h, if_neg h]; rfl
  | a :: b :: l => by
    have ih := followers_snoc k x y (b :: l)
    show (if b = k then a :: followers k (b :: l ++ [y, x]) else followers k (b :: l ++ [y, x])) = (if b = k then a :: followers k (b :: l ++ [y]) else followers k (b :: l ++ [y])) ++ _
    rw [ih]
    by_cases h : b = k
    · rw [if_pos h, if_pos h]; rfl
    · rw [if_neg h, if_neg h]
/-- one turn more of looking back -/
theorem followers_take {k : Int} {l : List Int} {i : Nat} {x y : Int} (hy : l[i]? = some y) (hx : l[i + 1]? = some x) : followers k (l.take (i + 1 + 1)) = followers k (l.take (i + 1)) ++ (if x = k then [y] else []) := by
  have t : ∀ {l : List Int} {i : Nat} {x : Int}, l[i]? = some x → l.take (i + 1) = l.take i ++ [x] := by
    intro l
    induction l with
    | nil => intro i x h; simp at h
    | cons a l ih =>
      intro i x h
      cases i with
      | zero =>
        have : a = x := by simpa using h
        rw [this]; rfl
      | succ i =>
        have := ih (i := i) (x := x) (by simpa using h)
        rw [List.take_succ_cons, List.take_succ_cons, this]
        rfl
  rw [t hx, t hy, List.append_assoc]
  exact followers_snoc k x y (l.take i)
theorem looked_len : ∀ {g : G} (l : List Int), g.ok → (looked g l).length ≤ 3 * 2 ^ g.depth
  | .non, [], _ => Nat.zero_le _
  | .non, _ :: _, _ => Nat.zero_le _
  | .next _, [], _ => Nat.zero_le _
  | .next n, p :: r, h => by
    show (nexts p n).length ≤ 3 * 2 ^ 0
    unfold nexts
    rw [List.length_map, List.length_range]
    have := h.2
    omega
  | .stride _, [], _ => Nat.zero_le _
  | .stride n, p :: r, _ => by
    show (if _ then [p + _] else ([] : List Int)).length ≤ 3 * 2 ^ 0
    split
    · show 1 ≤ _
      omega
    · show 0 ≤ _
      omega
  | .pairs _, [], _ => Nat.zero_le _
  | .pairs n, p :: r, h => by
    show ((firsts (followers p (p :: r))).take n.toNat).length ≤ 3 * 2 ^ 0
    rw [List.length_take]
    have := h.2
    omega
  | .both _ _, [], _ => Nat.zero_le _
  | .both a b, p :: r, h => by
    show (joined (looked a (p :: r)) (looked b (p :: r))).length ≤ 3 * 2 ^ (max a.depth b.depth + 1)
    unfold joined
    rw [List.length_append]
    have h1 := looked_len (p :: r) h.1
    have h2 := looked_len (p :: r) h.2
    have h3 := List.length_filter_le (fun v => decide (v ∉ looked a (p :: r))) (looked b (p :: r))
    have h4 : 2 ^ a.depth ≤ 2 ^ max a.depth b.depth := Nat.pow_le_pow_right (by decide) (Nat.le_max_left _ _)
    have h5 : 2 ^ b.depth ≤ 2 ^ max a.depth b.depth := Nat.pow_le_pow_right (by decide) (Nat.le_max_right _ _)
    rw [Nat.pow_succ]
    omega
theorem firsts_len : ∀ l : List Int, (firsts l).length ≤ l.length
  | [] => Nat.le_refl _
  | a :: r => by
    show ((firsts r).filter _).length + 1 ≤ r.length + 1
    have := firsts_len r
    have := List.length_filter_le (fun y => decide (y ≠ a)) (firsts r)
    omega
theorem followers_len (k : Int) : ∀ l : List Int, (followers k l).length ≤ l.length
  | [] => Nat.le_refl _
  | [_] => Nat.zero_le _
  | a :: b :: r => by
    have ih := followers_len k (b :: r)
    show (if b = k then a :: followers k (b :: r) else followers k (b :: r)).length ≤ (b :: r).length + 1
    split
    · show (followers k (b :: r)).length + 1 ≤ _
      omega
    · omega
end Sw
set_option Elab.async false
set_option linter.all false
set_option maxRecDepth 100000
/-! match over tuples: patterns that are written texts, names, `_`, sequences of such -/
namespace SwX
open PySem PySem.Spec PyProof.Rows L2
abbrev TM := V → L2.St → Hp → (Option (List V) → Hp → Prop) → Prop
abbrev TMs := List V → L2.St → Hp → (Option (List V) → Hp → Prop) → Prop
/-- what a pattern captures: the names in order, their values -/
def Capt (ns : List Str) : Option (List V) → Option (List (Str × Value)) → Prop
  | some vs, some bs => bs.map (·.1) = ns ∧ Vals vs (bs.map (·.2))
  | none, none => True
  | _, _ => False
def MP (X : Cx) (pins : List (Addr × Obj)) (σ : L2.St) (ns : List Str) (Q : Option (List V) → Hp → Prop) (r : Option (List (Str × Value))) (s' : Shared) : Prop :=
  ∃ ro H', Inv X pins σ H' s' ∧ Capt ns ro r ∧ Q ro H'
structure PM (X : Cx) (p : Pattern) (ns : List Str) (t : TM) : Prop where
  run : ∀ (pins : List (Addr × Obj)) (s : Shared) (σ : L2.St) (H : Hp) (v : V) (u : Value) (Q : Option (List V) → Hp → Prop), Inv X pins σ H s → RelV v u → t v σ H Q →
    wpAny (model X.prog X.w) X.A (matchPattern p X.env u) (MP X pins σ ns Q) X.xe s
structure PMs (X : Cx) (ps : List Pattern) (ns : List Str) (t : TMs) : Prop where
  run : ∀ (pins : List (Addr × Obj)) (s : Shared) (σ : L2.St) (H : Hp) (vs : List V) (us : List Value) (Q : Option (List V) → Hp → Prop), Inv X pins σ H s → Vals vs us → t vs σ H Q →
    wpAny (model X.prog X.w) X.A (matchEach ps X.env us) (MP X pins σ ns Q) X.xe s
section
variable {X : Cx} {pos : Pos}
def mCap : TM := fun v _ H Q => Q (some [v]) H
def mAny : TM := fun _ _ H Q => Q (some []) H
def mVal (w : V) : TM := fun v _ H Q => scal v w = true ∧ Q (if decide (v = w) = true then some [] else none) H
theorem pm_cap {x : Str} : PM X (.MatchAs none (some x) pos) [x] mCap :=
  ⟨fun _ _ _ H v u _ I r h => wpAny_matchPattern_Capture ⟨some [v], H, I, ⟨rfl, .cons r .nil⟩, h⟩⟩
theorem pm_any : PM X (.MatchAs none none pos) [] mAny :=
  ⟨fun _ _ _ H _ _ _ I _ h => wpAny_matchPattern_Capture ⟨some [], H, I, ⟨rfl, .nil⟩, h⟩⟩
theorem pm_val {e : Expr} {w : V} (he : PE X e (tC w)) : PM X (.MatchValue e pos) [] (mVal w) := by
  refine ⟨fun pins s σ H v u Q I r h => ?_⟩
  obtain ⟨hs, h⟩ := h
  refine wpAny_matchPattern_Value (thn (he.run pins s σ H (fun x H1 => x = w ∧ H1 = H) I ⟨rfl, rfl⟩) fun y s1 ⟨x, H1, I1, r1, ex, eH⟩ => ?_)
  subst ex
  subst eH
  refine thn (op_eq pins s1 σ H1 v x u y (fun z H2 => z = .bl (decide (v = x)) ∧ H2 = H1) I1 r r1 ⟨hs, rfl, rfl⟩) fun z s2 ⟨zv, H2, I2, r2, ez, eH⟩ => ?_
  subst ez
  subst eH
  cases r2
  refine wpAny_truthy_bool ?_
  cases hd : decide (v = x) with
  | true =>
    rw [if_pos rfl]
    rw [hd, if_pos rfl] at h
    exact ⟨some [], H2, I2, ⟨rfl, .nil⟩, h⟩
  | false =>
    rw [if_neg (by decide)]
    rw [hd, if_neg (by decide)] at h
    exact ⟨none, H2, I2, trivial, h⟩
def msNil : TMs := fun vs _ H Q => vs = [] ∧ Q (some []) H
def msCons (t : TM) (u : TMs) : TMs := fun vs σ H Q => ∃ v r, vs = v :: r ∧ t v σ H fun ro H1 => match ro with
  | none => Q none H1
  | some a => u r σ H1 fun ro2 H2 => match ro2 with
    | none => Q none H2
    | some b => Q (some (a ++ b)) H2
theorem pms_nil : PMs X [] [] msNil := by
  refine ⟨fun pins s σ H vs us Q I r h => ?_⟩
  obtain ⟨e, h⟩ := h
  subst e
  cases r
  exact wpAny_matchEach_nil ⟨some [], H, I, ⟨rfl, .nil⟩, h⟩
theorem pms_cons {p : Pattern} {ps : List Pattern} {n1 n2 : List Str} {t : TM} {u : TMs} (h1 : PM X p n1 t) (h2 : PMs X ps n2 u) (hp : p.isStar = false := by rfl) : PMs X (p :: ps) (n1 ++ n2) (msCons t u) := by
  refine ⟨fun pins s σ H vs us Q I r h => ?_⟩
  obtain ⟨v, vr, e, h⟩ := h
  subst e
  cases r with
  | cons r rr =>
    refine wpAny_matchEach_cons (thn (h1.run pins s σ H _ _ _ I r h) fun ra s1 ⟨ro, H1, I1, c1, q1⟩ => ?_) hp
    cases ra with
    | none =>
      cases ro with
      | some _ => exact c1.elim
      | none => exact ⟨none, H1, I1, trivial, q1⟩
    | some bs =>
      cases ro with
      | none => exact c1.elim
      | some a =>
        refine thn (h2.run pins s1 σ H1 _ _ _ I1 rr q1) fun rb s2 ⟨ro2, H2, I2, c2, q2⟩ => ?_
        cases rb with
        | none =>
          cases ro2 with
          | some _ => exact c2.elim
          | none => exact ⟨none, H2, I2, trivial, q2⟩
        | some cs =>
          cases ro2 with
          | none => exact c2.elim
          | some b =>
            refine ⟨some (a ++ b), H2, I2, ⟨?_, ?_⟩, q2⟩
            · rw [List.map_append, c1.1, c2.1]
            · rw [List.map_append]
              exact c1.2.append c2.2
/-- a sequence pattern over a tuple -/
def mSeq (K : PySem.W.Frag) (n : Nat) (t : TMs) : TM := fun v σ H Q => ∃ a xs, v = .ref a ∧ SqT K H a xs ∧ if xs.length = n then t xs σ H Q else Q none H
theorem pm_seq {ps : List Pattern} {ns : List Str} {t : TMs} {n : Nat} (hc : X.calm = true) (h : PMs X ps ns t) (hn : ps.length = n := by rfl) (hstar : ps.findIdx? (·.isStar) = none := by rfl)
    (hwild : (ps.all fun p => p.isWildcard || (p.isStar && p.names.isEmpty)) = false := by rfl) : PM X (.MatchSequence ps pos) ns (mSeq X.K n t) := by
  refine ⟨fun pins s σ H v u Q I r hw => ?_⟩
  obtain ⟨a, xs, e, hx, hw⟩ := hw
  subst e
  obtain rfl : u = Value.ref a := r
  obtain ⟨its, rv, ht, hz⟩ := I.tuple hx
  have hfit : (its.toArray.size : Int) < 2 ^ 63 := by
    have e1 := rv.length
    have e2 : its.toArray.size = its.length := by simp
    have e3 : sizeLine < 2 ^ 62 := by decide
    omega
  by_cases hl : xs.length = n
  · rw [if_pos hl] at hw
    have hsz : its.toArray.size = ps.length := by
      have e1 := rv.length
      have e2 : its.toArray.size = its.length := by simp
      omega
    refine matchSeq_tuple_hit ht hfit hsz ?_ hstar hwild
    rw [← hsz]
    refine unpackItems_tuple (I.ok.hd hc) ht fun h' hx' => ?_
    have I1 : Inv X pins σ H { s with toks := s.toks + 1 + 1, heap := h' } := I.kept (t' := s.toks + 1 + 1) fun b o e => hx' b o (Nat.ne_of_lt (Heap.lt_size e)) e
    exact h.run pins _ σ H xs its.toArray.toList Q I1 (by simpa using rv) hw
  · rw [if_neg hl] at hw
    have hsz : its.toArray.size ≠ ps.length := by
      have e1 := rv.length
      have e2 : its.toArray.size = its.length := by simp
      omega
    refine matchSeq_tuple_miss ht hfit hsz ?_ hstar hwild
    exact ⟨none, H, I.tok _, trivial, hw⟩
/-- the captured values go to their slots, in order -/
def setAll : L2.St → List Nat → List V → L2.St
  | σ, i :: is, v :: vs => setAll (σ.set i (some v)) is vs
  | σ, _, _ => σ
structure SlotOk (X : Cx) (i : Nat) (x : Str) : Prop where
  at_ : X.N[i]? = some x
  loc : Loc X.env.scope x
  fn : X.fn x = true ∨ X.env.scope.names.lookup x = some .local
theorem bind_all {M : Model} {A : Around} {E : Value → Shared → Prop} (hN : X.N.Nodup) {pins : List (Addr × Obj)} {H : Hp} {Q : Unit → Shared → Prop} : ∀ (ns : List Str) (is : List Nat) (bs : List (Str × Value)) (vs : List V) (σ : L2.St) (s : Shared), Paired (SlotOk X) is ns → bs.map (·.1) = ns → Vals vs (bs.map (·.2)) → Inv X pins σ H s →
    (∀ s', Inv X pins (setAll σ is vs) H s' → Q () s') → wpAny M A (assignInOrder (bs.map fun (n, _) => bindName X.env n) (bs.map (·.2))) Q E s
  | ns, is, [], vs, σ, s, hp, en, hv, I, k => by
    cases hv
    have e : setAll σ is [] = σ := by cases is <;> rfl
    rw [e] at k
    exact wpAny_assignInOrder_none (k s I)
  | ns, is, (y, u) :: bs, vs, σ, s, hp, en, hv, I, k => by
    cases hp with
    | nil => cases en
    | cons h1 hr =>
      cases hv with
      | cons r rr =>
        injection en with en1 en2
        have en1 : y = _ := en1
        subst en1
        exact wpAny_assignInOrder_more (wpAny_bindName (store_ok I hN h1.at_ h1.loc r (fun s1 I1 => bind_all hN _ _ bs _ _ s1 hr en2 rr I1 k) h1.fn))
abbrev TCs := V → Ends → L2.St → Hp → Prop
structure PCs (X : Cx) (cs : List MatchCase) (t : TCs) : Prop where
  run : ∀ (first : Bool) (pins : List (Addr × Obj)) (s : Shared) (σ : L2.St) (H : Hp) (v : V) (u : Value) (D : Ends), Inv X pins σ H s → RelV v u → t v D σ H →
    wpAny (model X.prog X.w) X.A (matchCases cs X.env u first) (SP X pins D) X.xe s
def csNil : TCs := fun _ D σ H => D.nx σ H
def csCons (t : TM) (is : List Nat) (b : TS) (r : TCs) : TCs := fun v D σ H => t v σ H fun ro H1 => match ro with
  | none => r v D σ H1
  | some vs => b D (setAll σ is vs) H1
theorem pcs_nil : PCs X [] csNil := ⟨fun _ _ _ σ H _ _ _ I _ h => wpAny_matchCases_nil ⟨σ, H, I, h⟩⟩
theorem pcs_cons {p : Pattern} {ns : List Str} {is : List Nat} {body : List Stmt} {rest : List MatchCase} {t : TM} {b : TS} {r : TCs} (hN : X.N.Nodup) (hp : PM X p ns t) (hs : Paired (SlotOk X) is ns) (hb : PSs X body b) (hr : PCs X rest r) :
    PCs X (⟨p, none, body⟩ :: rest) (csCons t is b r) := by
  refine ⟨fun first pins s σ H v u D I rv h => ?_⟩
  refine wpAny_matchCases_cons (thn (hp.run pins s σ H v u _ I rv h) fun ra s1 ⟨ro, H1, I1, c1, q1⟩ => ?_)
  cases ra with
  | none =>
    cases ro with
    | some _ => exact c1.elim
    | none => exact hr.run false pins s1 σ H1 v u D I1 rv q1
  | some bs =>
    cases ro with
    | none => exact c1.elim
    | some vs => exact bind_all hN ns is bs vs σ s1 hs c1.1 c1.2 I1 fun s2 I2 => hb.run pins s2 _ H1 D I2 q1
def tMatch (te : TE) (tc : TCs) : TS := fun D σ H => te σ H fun v H1 => tc v D σ H1
theorem ps_match {e : Expr} {cs : List MatchCase} {te : TE} {tc : TCs} (he : PE X e te) (hc : PCs X cs tc) : PS X (.Match e cs pos) (tMatch te tc) := by
  refine ⟨fun pins s σ H D I h => ?_⟩
  exact wpAny_Match (thn (he.run pins s σ H _ I h) fun u s1 ⟨v, H1, I1, r1, q1⟩ => hc.run true pins s1 σ H1 v u D I1 r1 q1)
end

/-! ### a method of an object whose class is one of several -/
section
variable {X : Cx}
structure Of (X : Cx) (CX : CXT) (E : XK) (m : Str) (sp : Sp) (C : Addr) : Prop where
  ex : ∃ (f : Addr) (fd : FuncData) (k : Nat) (ps : List Str), Cls X.K C ∧ Meth X.K C m f ∧ FnOk X.prog X.w X.K X.mg X.base CX k f fd ps sp ∧ Room k X.A ∧ Binds X.K fd ps [] ∧ Passes CX X E
def tOneOf {ι : Type} (R : ι → Addr) (m : Str) (sp : ι → Sp) (E : XK) (ta : TE) (t : TA) : TE := fun σ H Q => ta σ H fun x H1 => ∃ a i dx fs, x = .ref a ∧ H1 a = some (.ins (R i) dx fs) ∧ fs.lookup m = none ∧
  t σ H1 fun vs H2 => sp i (x :: vs) H2 Q E
theorem pe_methOf {CX : CXT} {ι : Type} {R : ι → Addr} {E : XK} {m : Str} {sp : ι → Sp} {pos apos : Pos} {e o : Expr} {es : List Expr} {ta : TE} {t : TA} {pl : Sem Bool} (hR : ∀ i, Of X CX E m (sp i) (R i)) (he : PE X o ta) (ha : PA X (e :: es) t)
    (hst : starEach (e :: es) X.env = (false, eval e X.env) :: starEach es X.env := by rfl) (hpl : (backTo pos (starEach es X.env)).any (·.1) = false := by rfl)
    (ht : eval (.Call (.Attribute o m apos) (e :: es) [] pos) X.env = (do
      let ov ← eval o X.env
      standAt apos.atName
      let (f, first) ← holding [ov] (getMethod ov m pl)
      callWith pos f first (backTo pos (starEach (e :: es) X.env)) (backToKw pos (keywordEach [] X.env))) := by rfl) :
    PE X (.Call (.Attribute o m apos) (e :: es) [] pos) (tOneOf R m sp E ta t) := by
  refine ⟨fun pins s σ H Q I h => ?_⟩
  refine PySem.W.methodCall_KW (pl := pl) (thn (he.run pins s σ H _ I h) fun u s1 ⟨x, H1, I1, rx, a, i, dx, fs, ex, ea, l, q⟩ => ?_) ht
  subst ex
  obtain rfl : u = Value.ref a := rx
  obtain ⟨f, fd, k, ps, c, hm, F, hr, hb, hx⟩ := (hR i).ex
  refine getmeth_ok I1 ea c hm l ?_
  refine PySem.W.callWith_K (first := [.ref a]) (h₀ := X.base) I.ok.mod.kin hm.kp (thn (ha.run pos pins s1 σ H1 _ I1 q) fun us s2 ⟨vs, H2, I2, r, q2⟩ => ⟨I2.kIn, ?_⟩) hst hpl
  exact run_fn (us := .ref a :: us) (vs := .ref a :: vs) (dvs := []) F hr hb .nil hx I2 (.cons rfl r) (by rw [List.append_nil]; exact q2)
end
/-! ### C() of a class whose __init__ is object's -/
section
variable {X : Cx}
def tMakeN (C : Addr) : TE := fun _ H Q => ∀ x dx, H x = none → H dx = none → dx ≠ x → Q (.ref x) (upd (upd H dx (.own x)) x (.ins C dx []))
structure MkN (K : PySem.W.Frag) (C : Addr) : Prop where
  makes : PySem.W.makesIn K C = true
  init : PySem.W.findIn K (.ref C) "__init__" = some (some (.builtin "object.__init__"))
  kp : PySem.W.keepIn K (.ref C) = true
theorem pe_makeN {C : Addr} {x : Str} {p pos : Pos} (M : MkN X.K C) (hg : Gl X x) (hm : X.mg x = some (.ref C)) (hdb : (x == ("__debug__" : Str)) = false := by decide) : PE X (.Call (.Name x p) [] [] pos) (tMakeN C) := by
  refine ⟨fun pins s σ H Q I h => ?_⟩
  refine wpAny_Call_Name_kw (ld_glob I hg hm ?_ hdb)
  refine PySem.W.callWith_K0 I.kIn M.kp (wpAny_call ?_)
  have hq := h (s.heap.objs.size + 1) s.heap.objs.size (I.hok.fresh (Nat.le_succ _)) (I.hok.fresh (Nat.le_refl _)) (Nat.ne_of_lt (Nat.lt_succ_self _))
  have I2 := Inv.made (C := C) I
  have Y := PySem.W.makes_of (M := model X.prog X.w) I.kIn M.makes
  refine make_map0 I.kIn M.makes M.init (fun self => PySem.W.Looks.of_pure (PySem.W.oi_bind self)) ?_
  have e2 : ((s.heap.push PySem.W.emptyDict).push (PySem.W.instObj C s.heap.objs.size)).get? (s.heap.objs.size + 1) = some (PySem.W.instObj C s.heap.objs.size) := by
    have := Heap.get?_push_size (s.heap.push PySem.W.emptyDict) (o := PySem.W.instObj C s.heap.objs.size) rfl
    rwa [Heap.size_push] at this
  have t1 : PySem.W.Looks (model X.prog X.w) ((s.heap.push PySem.W.emptyDict).push (PySem.W.instObj C s.heap.objs.size)) (typeOf (.ref (s.heap.objs.size + 1))) (.ref C) := (PySem.W.Looks.ld e2).andThen .now
  have t2 : PySem.W.Looks (model X.prog X.w) ((s.heap.push PySem.W.emptyDict).push (PySem.W.instObj C s.heap.objs.size)) (isInstance (.ref (s.heap.objs.size + 1)) (.type "object")) true := t1.andThen (Y.top.keeps fun b o e => Heap.get?_push_of_some _ (Heap.get?_push_of_some _ e))
  refine codeAny_call_builtin PySem.W.oi_plain PySem.W.entry_oi (@PySem.W.check_slot (model X.prog X.w) _ _ _ "object.__init__" "object" "__init__" (.ref (s.heap.objs.size + 1)) [] [] _ PySem.W.oi_kind PySem.W.oi_split t2 (PySem.W.oi_args (.ref (s.heap.objs.size + 1))) ?_)
  rw [PySem.W.oi_run]
  exact wpAny_pure (And.intro rfl ⟨V.ref (s.heap.objs.size + 1), _, I2, rfl, hq⟩)
end
end SwX
set_option Elab.async false
set_option linter.all false
set_option maxRecDepth 100000
set_option maxHeartbeats 2000000
namespace SwX
open PySem PySem.Spec PyProof.Rows L2 StX
/-! ### the readings' short names -/
abbrev rAddI : R2 := rI0 fun i j => .int (i + j)
abbrev rSubI : R2 := rI0 fun i j => .int (i - j)
abbrev rMulI : R2 := rI CMul fun i j => .int (i * j)
abbrev rDivI : R2 := rI CDiv fun i j => .int (i / j)
abbrev rModI : R2 := rI (fun _ j => 0 < j) fun i j => .int (i % j)
abbrev rPowI : R2 := rI CPow fun i j => .int (i ^ j.toNat)
abbrev rLtI : R2 := rI0 fun i j => .bl (decide (i < j))
abbrev rLeI : R2 := rI0 fun i j => .bl (decide (i ≤ j))
abbrev rGtI : R2 := rI0 fun i j => .bl (decide (j < i))
abbrev rGeI : R2 := rI0 fun i j => .bl (decide (j ≤ i))
abbrev rNegI : V → Hp → VK → Prop := rU fun i => .int (-i)
abbrev RCall := List V → Hp → VK → Prop
abbrev rLenQ (K : PySem.W.Frag) : RCall := fun xs H Q => ∃ p ys, xs = [.ref p] ∧ (SqL K H p ys ∨ SqT K H p ys) ∧ Q (.int ys.length) H
abbrev rInt1 : RCall := fun xs H Q => (∃ i, xs = [.int i] ∧ Q (.int i) H) ∨ ∃ k, xs = [.bl k] ∧ Q (.int (if k then 1 else 0)) H
abbrev rListOf (K : PySem.W.Frag) : RCall := fun xs H Q => ∃ p ys, xs = [.ref p] ∧ (SqL K H p ys ∨ SqT K H p ys) ∧ ∀ l, H l = none → Q (.ref l) (upd H l (.lst ys))
abbrev rTupleOf (K : PySem.W.Frag) : RCall := fun xs H Q => ∃ p ys, xs = [.ref p] ∧ ((SqL K H p ys ∧ ∀ l, H l = none → Q (.ref l) (upd H l (.tup ys))) ∨ (SqT K H p ys ∧ Q (.ref p) H))
abbrev rMax2I : RCall := fun xs H Q => ∃ i j, xs = [.int i, .int j] ∧ Q (.int (if j > i then j else i)) H
abbrev rMin2I : RCall := fun xs H Q => ∃ i j, xs = [.int i, .int j] ∧ Q (.int (if j < i then j else i)) H
/-! ### what stays -/
theorem same_upd {H : Hp} {p : Addr} {o : HO} (h : H p = none) : Same H (upd H p o) := fun b u q => by
  rw [upd_ne (ne_of_none q h)]
  exact q
/-- all that was there and is not in M is as it was -/
def Out (M : Addr → Prop) (H H' : Hp) : Prop := ∀ b o, H b = some o → ¬ M b → H' b = some o
theorem same_out {M : Addr → Prop} {H H' : Hp} (e : Same H H') : Out M H H' := fun b o h _ => e b o h
theorem Out.refl {M : Addr → Prop} {H : Hp} : Out M H H := fun _ _ h _ => h
theorem Out.trans {M : Addr → Prop} {H H1 H2 : Hp} (a : Out M H H1) (b : Out M H1 H2) : Out M H H2 := fun c o h m => b c o (a c o h m) m
theorem Out.mono {M M' : Addr → Prop} {H H1 : Hp} (a : Out M H H1) (h : ∀ b, M b → M' b) : Out M' H H1 := fun c o e m => a c o e fun z => m (h c z)
theorem Out.at {M : Addr → Prop} {H H' : Hp} {b : Addr} {o : HO} (a : Out M H H') (h : H b = some o) (m : ¬ M b) : H' b = some o := a b o h m
theorem Out.trans2 {M M' : Addr → Prop} {H H1 H2 : Hp} (a : Out M H H1) (b : Out M' H1 H2) (m : ∀ x, M' x → M x ∨ H x = none) : Out M H H2 := fun c o e z => b c o (a c o e z) fun w => by
  rcases m c w with q | q
  · exact z q
  · rw [e] at q
    cases q
/-- one address alone -/
def Is (a : Addr) : Addr → Prop := fun b => b = a
theorem out_upd {a : Addr} {H : Hp} {o : HO} : Out (Is a) H (upd H a o) := fun b u h m => by
  rw [upd_ne m]
  exact h
theorem rd_out {M : Addr → Prop} {H H' : Hp} {a : Addr} {u : HO} (e : Out M H H') (m : ¬ M a) (h : Rd H a u) : Rd H' a u := by
  rcases h with h | ⟨o, h⟩
  · exact .inl (e _ _ h m)
  · exact .inr ⟨o, e _ _ h m⟩
theorem sql_out {K : PySem.W.Frag} {M : Addr → Prop} {H H' : Hp} {a : Addr} {xs : List V} (e : Out M H H') (m : ¬ M a) (h : SqL K H a xs) : SqL K H' a xs := by
  rcases h with h | h
  · exact .inl (rd_out e m h)
  · exact .inr h
theorem free_back {H H' : Hp} {p : Addr} (e : Same H H') (h : H' p = none) : H p = none := e.free h
theorem out_free {M : Addr → Prop} {H H' : Hp} {p : Addr} (e : Out M H H') (h : H' p = none) (m : ¬ M p) : H p = none := by
  cases q : H p with
  | none => rfl
  | some o =>
    rw [e p o q m] at h
    cases h
/-- what is wanted of a new object -/
def New (Q : VK) (H : Hp) (o : HO) : Prop := ∀ p, H p = none → Q (.ref p) (upd H p o)
/-! ### attributes by name -/
theorem lk_at {k : Str} {v : V} {r : List (Str × V)} : List.lookup k ((k, v) :: r) = some v := by
  have e : (k == k) = true := beq_self_eq_true k
  simp only [List.lookup, e]
theorem lk_by {k g : Str} {v : V} {r : List (Str × V)} {o : Option V} (h : (k == g) = false) (q : List.lookup k r = o) : List.lookup k ((g, v) :: r) = o := by
  simp only [List.lookup, h]
  exact q
theorem lk_no {k : Str} : List.lookup k ([] : List (Str × V)) = none := rfl
theorem pf_at {f : Str} {v x : V} {r : List (Str × V)} : L2.putF f v ((f, x) :: r) = (f, v) :: r := if_pos rfl
theorem pf_by {f g : Str} {v x : V} {r r' : List (Str × V)} (h : ¬ g = f) (q : L2.putF f v r = r') : L2.putF f v ((g, x) :: r) = (g, x) :: r' := (if_neg h).trans (congrArg _ q)
theorem pf_nil {f : Str} {v : V} : L2.putF f v [] = [(f, v)] := rfl
local macro_rules | `(tactic| walk_at "lk") => `(tactic| first | exact lk_at | exact lk_no | ((refine' lk_by (by decide +kernel) ?wq); (case wq => walk_at "lk")))
local macro_rules | `(tactic| walk_at "pf") => `(tactic| first | exact pf_at | exact pf_nil | ((refine' pf_by (by decide +kernel) ?wq); (case wq => walk_at "pf")))
section
variable {K : PySem.W.Frag} {σ : L2.St} {H : Hp} {Q : VK} {D : Ends} {ta tb te : TE} {t u : TS} {v : V} {i : Nat}
/-! ### what is to be shown of a reading, by its head -/
theorem w_var (h : σ[i]? = some (some v)) (k : Q v H) : tVar i σ H Q := ⟨v, h, k⟩
theorem w_c (k : Q v H) : tC v σ H Q := k
theorem w_op {r : R2} (k : ta σ H fun x H1 => tb σ H1 fun y H2 => r x y H2 Q) : tOp r ta tb σ H Q := k
theorem w_un {r : V → Hp → VK → Prop} (k : ta σ H fun x H1 => r x H1 Q) : tUn r ta σ H Q := k
theorem w_i0 {g : Int → Int → V} {a b : Int} (k : Q (g a b) H) : rI0 g (.int a) (.int b) H Q := ⟨a, b, rfl, rfl, k⟩
theorem w_i {C : Int → Int → Prop} {g : Int → Int → V} {a b : Int} (h : C a b) (k : Q (g a b) H) : rI C g (.int a) (.int b) H Q := ⟨a, b, rfl, rfl, h, k⟩
theorem w_neg {g : Int → V} {a : Int} (k : Q (g a) H) : rU g (.int a) H Q := ⟨a, rfl, k⟩
theorem w_eq {x y : V} (h : scal x y = true) (k : Q (.bl (decide (x = y))) H) : rEq x y H Q := ⟨h, k⟩
theorem w_ne {x y : V} (h : scal x y = true) (k : Q (.bl (!decide (x = y))) H) : rNe x y H Q := ⟨h, k⟩
theorem w_tup {t : TA} (k : t σ H fun xs H1 => xs.length ≤ sizeLine ∧ New Q H1 (.tup xs)) : tTup t σ H Q := k
theorem w_lst {t : TA} (k : t σ H fun xs H1 => xs.length ≤ sizeLine ∧ New Q H1 (.lst xs)) : tLst t σ H Q := k
/-- a new object -/
theorem w_new {o : HO} (k : ∀ p H', H p = none → Same H H' → H' p = some o → Q (.ref p) H') : New Q H o := fun p h => k p _ h (same_upd h) upd_same
theorem w_sll {a : Addr} {xs : List V} {lo hi : Option Int} (h : SqL K H a xs) (k : New Q H (.lst (cutV xs lo hi))) : rSlL K (.ref a) lo hi H Q := ⟨a, xs, rfl, h, k⟩
theorem w_listof {a : Addr} {xs : List V} (h : SqL K H a xs) (k : New Q H (.lst xs)) : rListOf K [.ref a] H Q := ⟨a, xs, rfl, .inl h, k⟩
theorem w_cat {a b : Addr} {xs ys : List V} (h : H a = some (.lst xs)) (h' : H b = some (.lst ys)) (z : xs.length + ys.length ≤ sizeLine) (k : New Q H (.lst (xs ++ ys))) : rCat (.ref a) (.ref b) H Q := ⟨a, b, xs, ys, rfl, rfl, h, h', z, k⟩
theorem w_rep {a : Addr} {xs : List V} {n : Int} (h : H a = some (.lst xs)) (h0 : -(2 ^ 63) ≤ n) (h1 : n < 2 ^ 63) (z : xs.length * n.toNat ≤ sizeLine) (k : New Q H (.lst (List.replicate n.toNat xs).flatten)) : rRep (.ref a) (.int n) H Q := ⟨a, n, xs, rfl, rfl, h, h0, h1, z, k⟩
theorem w_nil {Q : List V → Hp → Prop} (k : Q [] H) : tNil σ H Q := k
theorem w_cons {t : TA} {Q : List V → Hp → Prop} (k : ta σ H fun x H1 => t σ H1 fun xs H2 => Q (x :: xs) H2) : tCons ta t σ H Q := k
theorem w_cb {r : RCall} {t : TA} (k : t σ H fun xs H1 => r xs H1 Q) : tCB r t σ H Q := k
theorem w_call {sp : Sp} {dvs : List V} {E : XK} {t : TA} (k : t σ H fun xs H1 => sp (xs ++ dvs) H1 Q E) : tCall sp dvs E t σ H Q := k
theorem w_seq (k : t { D with nx := u D } σ H) : tSeq t u D σ H := k
theorem w_asg {g : TG} (k : te σ H fun x H1 => g x σ H1 D.nx) : tAsg te g D σ H := k
theorem w_name {P : L2.St → Hp → Prop} (k : P (σ.set i (some v)) H) : gName i v σ H P := k
theorem w_ret (k : te σ H D.rt) : tRet te D σ H := k
theorem w_retN (k : D.rt .non H) : tRetN D σ H := k
theorem w_drop (k : te σ H fun _ H1 => D.nx σ H1) : tDrop te D σ H := k
theorem w_next (k : D.nx σ H) : tNext D σ H := k
theorem w_if {c : TT} (k : c σ H fun b H1 => if b = true then t D σ H1 else u D σ H1) : tIfS c t u D σ H := k
theorem w_ifE {c : TT} (k : c σ H fun b H1 => if b = true then ta σ H1 Q else tb σ H1 Q) : tIf c ta tb σ H Q := k
theorem w_test {P : Bool → Hp → Prop} (k : te σ H fun x H1 => ∃ c, x = .bl c ∧ P c H1) : tTest te σ H P := k
theorem w_B {P : Bool → Hp → Prop} (k : te σ H fun x H1 => ∃ c, x = .bl c ∧ P c H1) : tB te σ H P := k
theorem w_bl {c : Bool} {P : Bool → Prop} (k : P c) : ∃ d, V.bl c = .bl d ∧ P d := ⟨c, rfl, k⟩
theorem w_not {c : TT} {P : Bool → Hp → Prop} (k : c σ H fun b H1 => P (!b) H1) : tNot c σ H P := k
theorem w_and {c d : TT} {P : Bool → Hp → Prop} (k : c σ H fun b H1 => if b = true then d σ H1 P else P false H1) : tAnd c d σ H P := k
theorem w_or {c d : TT} {P : Bool → Hp → Prop} (k : c σ H fun b H1 => if b = true then P true H1 else d σ H1 P) : tOr c d σ H P := k
theorem w_andV (k : ta σ H fun x H1 => ∃ c, x = .bl c ∧ if c = true then tb σ H1 Q else Q (.bl false) H1) : tAndV ta tb σ H Q := k
theorem w_orV (k : ta σ H fun x H1 => ∃ c, x = .bl c ∧ if c = true then Q (.bl true) H1 else tb σ H1 Q) : tOrV ta tb σ H Q := k
theorem w_notV (k : ta σ H fun x H1 => ∃ c, x = .bl c ∧ Q (.bl (!c)) H1) : tNotV ta σ H Q := k
theorem w_isN (k : ta σ H fun x H1 => Q (.bl (decide (x = .non))) H1) : tIsN ta σ H Q := k
theorem w_notN (k : ta σ H fun x H1 => Q (.bl (!decide (x = .non))) H1) : tNotN ta σ H Q := k
theorem w_yes {P : Bool → Hp → Prop} (k : P true H) : tYes σ H P := k
theorem w_fld {f : Str} (k : ta σ H fun x H1 => ∃ a C dx fs v, x = .ref a ∧ H1 a = some (.ins C dx fs) ∧ Cls K C ∧ NoAttr K C f ∧ fs.lookup f = some v ∧ Q v H1) : tFld K ta f σ H Q := k
theorem w_fldA {P : V → Prop} {f : Str} {a C dx : Addr} {fs : List (Str × V)} (h : H a = some (.ins C dx fs)) (c : Cls K C) (n : NoAttr K C f) (l : fs.lookup f = some v) (k : P v) :
    ∃ a' C dx fs v, V.ref a = .ref a' ∧ H a' = some (.ins C dx fs) ∧ Cls K C ∧ NoAttr K C f ∧ fs.lookup f = some v ∧ P v := ⟨a, C, dx, fs, v, rfl, h, c, n, l, k⟩
theorem w_sfld {f : Str} (k : tb σ H fun y H1 => ta σ H1 fun x H2 => ∃ a C dx fs, x = .ref a ∧ H2 a = some (.ins C dx fs) ∧ Cls K C ∧ NoAttr K C f ∧ fs.length < 1000 ∧ D.nx σ (upd H2 a (.ins C dx (L2.putF f y fs)))) : sFld K ta tb f D σ H := k
theorem w_sfldA {P : Hp → Prop} {f : Str} {a C dx : Addr} {fs fs' : List (Str × V)} (h : H a = some (.ins C dx fs)) (c : Cls K C) (n : NoAttr K C f) (z : fs.length < 1000) (l : L2.putF f v fs = fs') (k : P (upd H a (.ins C dx fs'))) :
    ∃ a' C dx fs, V.ref a = .ref a' ∧ H a' = some (.ins C dx fs) ∧ Cls K C ∧ NoAttr K C f ∧ fs.length < 1000 ∧ P (upd H a' (.ins C dx (L2.putF f v fs))) := ⟨a, C, dx, fs, rfl, h, c, n, z, by rw [l]; exact k⟩
theorem w_sfldB {P : Hp → Prop} {f : Str} {a C dx : Addr} {fs fs' : List (Str × V)} (c : Cls K C) (n : NoAttr K C f) (z : fs.length < 1000) (l : L2.putF f v fs = fs') (k : P (upd H a (.ins C dx fs'))) :
    ∃ a' C' dx' gs, V.ref a = .ref a' ∧ upd H a (.ins C dx fs) a' = some (.ins C' dx' gs) ∧ Cls K C' ∧ NoAttr K C' f ∧ gs.length < 1000 ∧ P (upd (upd H a (.ins C dx fs)) a' (.ins C' dx' (L2.putF f v gs))) := ⟨a, C, dx, fs, rfl, upd_same, c, n, z, by rw [l, upd_upd]; exact k⟩
theorem w_meth {C : Addr} {m : Str} {sp : Sp} {dvs : List V} {E : XK} {t : TA} (k : ta σ H fun x H1 => ∃ a dx fs, x = .ref a ∧ H1 a = some (.ins C dx fs) ∧ fs.lookup m = none ∧ t σ H1 fun vs H2 => sp (x :: (vs ++ dvs)) H2 Q E) : tMeth C m sp dvs E ta t σ H Q := k
theorem w_methA {P : Prop} {C a dx : Addr} {m : Str} {fs : List (Str × V)} (h : H a = some (.ins C dx fs)) (l : fs.lookup m = none) (k : P) : ∃ a' dx fs, V.ref a = .ref a' ∧ H a' = some (.ins C dx fs) ∧ fs.lookup m = none ∧ P := ⟨a, dx, fs, rfl, h, l, k⟩
theorem w_oneOf {ι : Type} {R : ι → Addr} {m : Str} {sp : ι → Sp} {E : XK} {t : TA} (k : ta σ H fun x H1 => ∃ a i dx fs, x = .ref a ∧ H1 a = some (.ins (R i) dx fs) ∧ fs.lookup m = none ∧ t σ H1 fun vs H2 => sp i (x :: vs) H2 Q E) : tOneOf R m sp E ta t σ H Q := k
theorem w_make {C : Addr} {sp : Sp} {dvs : List V} {E : XK} {t : TA} (k : t σ H fun vs H1 => ∀ x dx, H1 x = none → H1 dx = none → dx ≠ x → sp (.ref x :: (vs ++ dvs)) (upd (upd H1 dx (.own x)) x (.ins C dx [])) (fun v H2 => v = .non ∧ Q (.ref x) H2) E) : tMake C sp dvs E t σ H Q := k
theorem w_dget2 {ty tx : TE} (k : ta σ H fun x H1 => ∃ a, x = .ref a ∧ IsD H1 a ∧ ty σ H1 fun y H2 => tx σ H2 fun z H3 => ∃ o, DGet H3 a y o ∧ Q (o.getD z) H3) : tDGet2 ta ty tx σ H Q := k
theorem w_star {t : TA} {P : List V → Hp → Prop} (k : ta σ H fun x H1 => ∃ p xs, x = V.ref p ∧ (SqT K H1 p xs ∨ SqL K H1 p xs) ∧ t σ H1 fun ys H2 => P (xs ++ ys) H2) : tStar K ta t σ H P := k
theorem w_dput {td ty : TE} (k : tb σ H fun v H1 => td σ H1 fun x H2 => ty σ H2 fun y H3 => ∃ a H4, x = .ref a ∧ DPut H3 a y v H4 ∧ D.nx σ H4) : sDPut td ty tb D σ H := k
theorem w_dnewK (k : New Q H (.dK [])) : tDNewK σ H Q := k
theorem w_match {tc : TCs} (k : te σ H fun v H1 => tc v D σ H1) : tMatch te tc D σ H := k
theorem w_case {tm : TM} {is : List Nat} {b : TS} {r : TCs} (k : tm v σ H fun ro H1 => match ro with | none => r v D σ H1 | some vs => b D (setAll σ is vs) H1) : csCons tm is b r v D σ H := k
theorem w_mhit {n : Nat} {t : TMs} {a : Addr} {xs : List V} {P : Option (List V) → Hp → Prop} (h : SqT K H a xs) (l : xs.length = n) (k : t xs σ H P) : mSeq K n t (.ref a) σ H P := ⟨a, xs, rfl, h, by rw [if_pos l]; exact k⟩
theorem w_mmiss {n : Nat} {t : TMs} {a : Addr} {xs : List V} {P : Option (List V) → Hp → Prop} (h : SqT K H a xs) (l : xs.length ≠ n) (k : P none H) : mSeq K n t (.ref a) σ H P := ⟨a, xs, rfl, h, by rw [if_neg l]; exact k⟩
theorem w_mcons {t : TM} {u : TMs} {r : List V} {P : Option (List V) → Hp → Prop} (k : t v σ H fun ro H1 => match ro with
    | none => P none H1
    | some a => u r σ H1 fun ro2 H2 => match ro2 with
      | none => P none H2
      | some b => P (some (a ++ b)) H2) : msCons t u (v :: r) σ H P := ⟨v, r, rfl, k⟩
theorem w_mnil {P : Option (List V) → Hp → Prop} (k : P (some []) H) : msNil [] σ H P := ⟨rfl, k⟩
theorem w_mcap {P : Option (List V) → Hp → Prop} (k : P (some [v]) H) : mCap v σ H P := k
theorem w_many {P : Option (List V) → Hp → Prop} (k : P (some []) H) : mAny v σ H P := k
theorem w_myes {s : Str} {P : Option (List V) → Hp → Prop} (k : P (some []) H) : mVal (.str s) (.str s) σ H P := ⟨rfl, by rw [decide_eq_true rfl, if_pos rfl]; exact k⟩
theorem w_mno {s r : Str} {P : Option (List V) → Hp → Prop} (h : decide (V.str r = V.str s) = false) (k : P none H) : mVal (.str s) (.str r) σ H P := ⟨rfl, by rw [h, if_neg (by decide)]; exact k⟩
/-! ### lists, tuples -/
theorem w_ixl {a : Addr} {xs : List V} {n : Int} (h : SqL K H a xs) (e : atI xs n = some v) (k : Q v H) : rIxL K (.ref a) (.int n) H Q := ⟨a, xs, n, v, rfl, rfl, h, e, k⟩
theorem w_ixt {a : Addr} {xs : List V} {n : Int} (h : SqT K H a xs) (e : atI xs n = some v) (k : Q v H) : rIxT K (.ref a) (.int n) H Q := ⟨a, xs, n, v, rfl, rfl, h, e, k⟩
theorem w_len {a : Addr} {xs : List V} (h : SqL K H a xs ∨ SqT K H a xs) (k : Q (.int (xs.length : Int)) H) : rLenQ K [.ref a] H Q := ⟨a, xs, rfl, h, k⟩
theorem w_sub {to ti : TE} {ts : TSet} {P : L2.St → Hp → Prop} (k : to σ H fun o H1 => ti σ H1 fun i H2 => ts o i v H2 fun H3 => P σ H3) : gSub to ti ts v σ H P := k
theorem w_setl {a : Addr} {xs ys : List V} {n : Int} {j : Nat} {P : Hp → Prop} (h : H a = some (.lst xs)) (e : ixN xs.length n = some j) (l : xs.set j v = ys) (k : P (upd H a (.lst ys))) : rSetL (.ref a) (.int n) v H P := ⟨a, xs, n, j, rfl, rfl, h, e, by rw [l]; exact k⟩
theorem w_app {a : Addr} {xs : List V} (h : H a = some (.lst xs)) (z : xs.length < sizeLine) (k : Q .non (upd H a (.lst (xs ++ [v])))) : rAppend (.ref a) [v] H Q := ⟨a, xs, v, rfl, rfl, h, z, k⟩
theorem w_bm {T : String} {r : V → List V → Hp → VK → Prop} {t : TA} (k : ta σ H fun x H1 => tyV K T x H1 ∧ t σ H1 fun xs H2 => r x xs H2 Q) : tBM K T r ta t σ H Q := k
theorem w_sl {r : V → Option Int → Option Int → Hp → VK → Prop} {tl th : TO} (k : ta σ H fun x H1 => tl σ H1 fun l H2 => th σ H2 fun u H3 => r x l u H3 Q) : tSl r ta tl th σ H Q := k
theorem w_nopart {P : Option Int → Hp → Prop} (k : P none H) : tNoPart σ H P := k
theorem w_part {P : Option Int → Hp → Prop} (k : te σ H fun x H1 => ∃ i, x = .int i ∧ P (some i) H1) : tPart te σ H P := k
theorem w_int {n : Int} {P : Int → Prop} (k : P n) : ∃ i, V.int n = .int i ∧ P i := ⟨n, rfl, k⟩
theorem w_isi {x : V} {ty' u : Value} {b : Bool} {n : String} (e : u = .type n) (t : TyX K H x ty') (h : PySem.W.kitOne K ty' u = some b) (k : Q (.bl b) H) : rIsi K [x, .ty n] H Q := ⟨x, .ty n, ty', u, b, rfl, by rw [e]; exact .ty n, t, h, k⟩
/-- a test whose answer is known -/
theorem w_ifT {c : Prop} [Decidable c] {A B : Prop} (h : c) (k : A) : if decide c = true then A else B := by
  rw [decide_eq_true h, if_pos rfl]
  exact k
theorem w_ifF {c : Prop} [Decidable c] {A B : Prop} (h : ¬ c) (k : B) : if decide c = true then A else B := by
  rw [decide_eq_false h, if_neg (by decide)]
  exact k
theorem w_if2 {c : Prop} [Decidable c] {A B : Prop} (k1 : c → A) (k2 : ¬ c → B) : if decide c = true then A else B := by
  by_cases h : c
  · exact w_ifT h (k1 h)
  · exact w_ifF h (k2 h)
theorem w_ifn {c : Bool} {A B : Prop} (k : if c = true then B else A) : if (!c) = true then A else B := by
  cases c with
  | true =>
    rw [if_pos rfl] at k
    rw [if_neg (by decide)]
    exact k
  | false =>
    rw [if_neg (by decide)] at k
    rw [if_pos (by decide)]
    exact k
theorem w_ift {A B : Prop} (k : A) : if true = true then A else B := by
  rw [if_pos rfl]
  exact k
theorem w_iff {A B : Prop} (k : B) : if false = true then A else B := by
  rw [if_neg (by decide)]
  exact k
end
theorem inV_int (i : Int) (l : List Int) : inV (.int i) (l.map V.int) = decide (i ∈ l) := by
  unfold inV
  rw [List.any_map]
  have e : ((fun y => eqV y (V.int i)) ∘ V.int) = fun (y : Int) => y == i := by
    funext y
    rfl
  rw [e, Bool.eq_iff_iff, List.any_eq_true, decide_eq_true_iff]
  constructor
  · rintro ⟨y, hy, e⟩
    rw [← eq_of_beq e]
    exact hy
  · intro h
    exact ⟨i, h, beq_self_eq_true i⟩
theorem flat_ints (l : List Int) : (l.map V.int).all flatV = true := by
  rw [List.all_map]
  exact List.all_eq_true.mpr fun _ _ => rfl
theorem w_inl {K : PySem.W.Frag} {H : Hp} {Q : VK} {neg : Bool} {a : Addr} {i : Int} {l : List Int} (h : SqL K H a (l.map V.int)) (k : Q (.bl (if neg then !decide (i ∈ l) else decide (i ∈ l))) H) : rIn K neg (.int i) (.ref a) H Q :=
  ⟨a, _, rfl, .inl h, rfl, flat_ints l, by rw [inV_int]; exact k⟩
theorem w_inT {K : PySem.W.Frag} {H : Hp} {Q : VK} {neg : Bool} {a : Addr} {i : Int} {l : List Int} (h : SqT K H a (l.map V.int)) (k : Q (.bl (if neg then !decide (i ∈ l) else decide (i ∈ l))) H) : rIn K neg (.int i) (.ref a) H Q :=
  ⟨a, _, rfl, .inr h, rfl, flat_ints l, by rw [inV_int]; exact k⟩
theorem w_isiB {K : PySem.W.Frag} {H : Hp} {Q : VK} {x : V} {a b : String} {r : Bool} (t : TyOf K H x (.type a)) (h : kitB a b = some r) (k : Q (.bl r) H) : rIsi K [x, .ty b] H Q := ⟨x, .ty b, .type a, .type b, r, rfl, .ty b, .base t, kit_ty h, k⟩
theorem at_getD {ls : List Int} {n : Int} (h0 : 0 ≤ n) (h1 : n < (ls.length : Int)) : atI (ls.map V.int) n = some (.int (ls.getD n.toNat 0)) := by
  have hj : n.toNat < ls.length := by omega
  have e : n = ((n.toNat : Nat) : Int) := by omega
  have q := atI_nat (xs := ls.map V.int) (j := n.toNat) (v := .int ls[n.toNat]) (by rw [List.getElem?_map, List.getElem?_eq_getElem hj]; rfl)
  rw [← e] at q
  rw [q, List.getD_eq_getElem?_getD, List.getElem?_eq_getElem hj]
  rfl
theorem w_max2 {H : Hp} {Q : VK} {i j : Int} (k : Q (.int (if j > i then j else i)) H) : rMax2I [.int i, .int j] H Q := ⟨i, j, rfl, k⟩
theorem w_isiY {K : PySem.W.Frag} {H : Hp} {Q : VK} {x : V} {a b : String} (t : TyOf K H x (.type a)) (h : kitB a b = some true) (k : Q (.bl true) H) : rIsi K [x, .ty b] H Q := w_isiB t h k
theorem w_isiN {K : PySem.W.Frag} {H : Hp} {Q : VK} {x : V} {a b : String} (t : TyOf K H x (.type a)) (h : kitB a b = some false) (k : Q (.bl false) H) : rIsi K [x, .ty b] H Q := w_isiB t h k
theorem kit_tl1 {K : PySem.W.Frag} : PySem.W.kitAny K (.type "list") [.type "tuple", .type "list"] = some true := by
  unfold PySem.W.kitAny
  rw [kit_ty (show kitB "list" "tuple" = some false by decide +kernel)]
  show PySem.W.kitAny K (.type "list") [.type "list"] = some true
  unfold PySem.W.kitAny
  rw [kit_ty (show kitB "list" "list" = some true by decide +kernel)]
theorem kit_tl2 {K : PySem.W.Frag} : PySem.W.kitAny K (.type "tuple") [.type "tuple", .type "list"] = some true := by
  unfold PySem.W.kitAny
  rw [kit_ty (show kitB "tuple" "tuple" = some true by decide +kernel)]
theorem w_isiTL {K : PySem.W.Frag} {H : Hp} {Q : VK} {x : V} {p : Addr} {t : Value} (hp : H p = some (.tup [.ty "tuple", .ty "list"])) (ty' : TyOf K H x t) (h : PySem.W.kitAny K t [.type "tuple", .type "list"] = some true) (k : Q (.bl true) H) : rIsiT K [x, .ref p] H Q :=
  ⟨x, p, _, t, _, true, rfl, hp, .cons (.ty _) (.cons (.ty _) .nil), .base ty', h, k⟩
theorem small_le {n : Nat} (h : n ≤ 1000000) : n ≤ sizeLine := Nat.le_trans h (by decide)
theorem small_lt {n : Nat} (h : n ≤ 1000000) : n < sizeLine := Nat.lt_of_le_of_lt h (by decide)
/-! ### comprehensions -/
def lcK (J : It) (g : TG) (tt : TT) (te : TE) (vs : List Nat) (σ : L2.St) (H1 : Hp) (Q : VK) : Prop := ∀ D, H1 D = none → ∃ W : Nat → Nat → Hp → Prop, (∃ m, W 0 m (upd H1 D (.lst []))) ∧ ∀ i m H, W i m H →
  (J.stop i H ∧ Q (.ref D) H) ∨ (J.go i H ∧ ∃ Nx : Hp → Prop, (∀ H', Nx H' → ∃ m', m' < m ∧ W (i + 1) m' H') ∧ ∀ x H', J.yld i H x H' → g x (wipe σ vs) H' fun σ2 H2 => wipe σ2 vs = wipe σ vs ∧ tt σ2 H2 fun b H3 =>
    if b = true then te σ2 H3 fun y H4 => ∃ acc, H4 D = some (.lst acc) ∧ acc.length < sizeLine ∧ Nx (upd H4 D (.lst (acc ++ [y]))) else Nx H3)
def forK (J : It) (g : TG) (tb : TS) (D : Ends) (σ : L2.St) (H1 : Hp) : Prop := ∃ W : Nat → Nat → L2.St → Hp → Prop, (∃ m, W 0 m σ H1) ∧ ∀ i m σ H, W i m σ H →
  (J.stop i H ∧ D.nx σ H) ∨ (J.go i H ∧ ∃ N : L2.St → Hp → Prop, (∀ σ' H', N σ' H' → ∃ m', m' < m ∧ W (i + 1) m' σ' H') ∧ ∀ x H', J.yld i H x H' → g x σ H' fun σ2 H2 => tb { D with nx := N, ct := N, bk := D.nx } σ2 H2)
theorem take_more {α : Type} : ∀ {l : List α} {i : Nat} {x : α}, l[i]? = some x → l.take (i + 1) = l.take i ++ [x]
  | [], i, x, h => by simp at h
  | a :: l, 0, x, h => by
    have e : a = x := Option.some.inj h
    subst e
    rfl
  | a :: l, i + 1, x, h => by
    have ih := take_more (l := l) (i := i) (x := x) h
    show a :: l.take (i + 1) = a :: l.take i ++ [x]
    rw [ih]
    rfl
section
variable {K : PySem.W.Frag} {σ : L2.St} {H : Hp} {Q : VK} {D : Ends} {te : TE} {tt : TT} {tb : TS} {g : TG} {vs : List Nat} {j : Nat}
theorem w_lc {wi : TI} (k : wi σ H fun J H1 => lcK J g tt te vs σ H1 Q) : tLc wi g tt te vs σ H Q := k
theorem w_for {wi : TI} (k : wi σ H fun J H1 => forK J g tb D σ H1) : tFor wi g tb D σ H := k
theorem w_ilist {tl : TE} {R : It → Hp → Prop} (k : tl σ H fun x H1 => ∃ a, x = .ref a ∧ (∃ xs, SqL K H1 a xs) ∧ R (Itl K a) H1) : iList K tl σ H R := k
theorem w_irng1 {ta : TA} {R : It → Hp → Prop} (k : ta σ H fun vs H1 => ∃ j : Int, vs = [.int j] ∧ -(2 ^ 62) ≤ j ∧ j < 2 ^ 62 ∧ R (Itr 0 j.toNat) H1) : iRng1 ta σ H R := k
theorem w_irng2 {ta : TA} {R : It → Hp → Prop} (k : ta σ H fun vs H1 => ∃ i j : Int, vs = [.int i, .int j] ∧ (-(2 ^ 62) ≤ i ∧ i < 2 ^ 62 ∧ -(2 ^ 62) ≤ j ∧ j < 2 ^ 62) ∧ R (Itr i (j - i).toNat) H1) : iRng2 ta σ H R := k
theorem w_irng3 {ta : TA} {R : It → Hp → Prop} (k : ta σ H fun vs H1 => ∃ (i j c : Int) (n : Nat), vs = [.int i, .int j, .int c] ∧ RgC i j c n ∧ R (Itc i c n) H1) : iRng3 ta σ H R := k
/-- what a turn of a comprehension adds -/
def added (f : V → Bool) (g : V → V) (l : List V) : List V := (l.filter f).map g
theorem added_len (f : V → Bool) (g : V → V) (l : List V) : (added f g l).length ≤ l.length := by
  unfold added
  rw [List.length_map]
  exact List.length_filter_le _ _
theorem added_more (f : V → Bool) (g : V → V) {l : List V} {i : Nat} {x : V} (h : l[i]? = some x) : added f g (l.take (i + 1)) = if f x = true then added f g (l.take i) ++ [g x] else added f g (l.take i) := by
  unfold added
  rw [take_more h, List.filter_append, List.map_append, List.filter_cons]
  by_cases c : f x = true
  · rw [if_pos c, if_pos c]
    rfl
  · rw [if_neg c, if_neg c]
    simp
theorem lc_turn {f : V → Bool} {gv : V → V} {src : List V} {i : Nat} {x : V} {Dl : Addr} {H0 H' : Hp} {σ2 : L2.St} (hi : src[i]? = some x) (hz : src.length < sizeLine)
    (ht : ∀ H', Same H0 H' → ∀ R : Bool → Hp → Prop, (∀ H2, Same H' H2 → R (f x) H2) → tt σ2 H' R) (he : f x = true → ∀ H', Same H0 H' → ∀ R : VK, (∀ H2, Same H' H2 → R (gv x) H2) → te σ2 H' R)
    (p : H0 Dl = none ∧ Same H0 H' ∧ H' Dl = some (.lst (added f gv (src.take i)))) :
    tt σ2 H' fun b H3 => if b = true then te σ2 H3 fun y H4 => ∃ acc, H4 Dl = some (.lst acc) ∧ acc.length < sizeLine ∧ (H0 Dl = none ∧ Same H0 (upd H4 Dl (.lst (acc ++ [y]))) ∧ upd H4 Dl (.lst (acc ++ [y])) Dl = some (.lst (added f gv (src.take (i + 1)))))
      else (H0 Dl = none ∧ Same H0 H3 ∧ H3 Dl = some (.lst (added f gv (src.take (i + 1))))) := by
  obtain ⟨p1, p2, p3⟩ := p
  refine ht H' p2 _ fun H3 e3 => ?_
  have hl : (added f gv (src.take i)).length < sizeLine := by
    have h1 := added_len f gv (src.take i)
    have h2 : (src.take i).length ≤ src.length := List.length_take_le' _ _
    omega
  cases c : f x with
  | true =>
    rw [if_pos rfl]
    refine he c H3 (p2.trans e3) _ fun H4 e4 => ⟨_, e4 _ _ (e3 _ _ p3), hl, p1, fun b o hb => ?_, ?_⟩
    · rw [upd_ne (fun z => by rw [z, p1] at hb; cases hb)]
      exact e4 _ _ (e3 _ _ (p2 b o hb))
    · rw [upd_same, added_more f gv hi, if_pos c]
  | false =>
    rw [if_neg (by decide)]
    refine ⟨p1, p2.trans e3, ?_⟩
    rw [added_more f gv hi, if_neg (by rw [c]; decide)]
    exact e3 _ _ p3
theorem w_lcl {a : Addr} {src : List V} (f : V → Bool) (gv : V → V) (hx : SqL K H a src) (hz : src.length < sizeLine) (hw : ∀ x, wipe ((wipe σ vs).set j (some x)) vs = wipe σ vs)
    (ht : ∀ x, x ∈ src → ∀ H', Same H H' → ∀ R : Bool → Hp → Prop, (∀ H2, Same H' H2 → R (f x) H2) → tt ((wipe σ vs).set j (some x)) H' R) (he : ∀ x, x ∈ src → f x = true → ∀ H', Same H H' → ∀ R : VK, (∀ H2, Same H' H2 → R (gv x) H2) → te ((wipe σ vs).set j (some x)) H' R)
    (k : ∀ p H', H p = none → Same H H' → H' p = some (.lst (added f gv src)) → Q (.ref p) H') : ∃ a', V.ref a = .ref a' ∧ (∃ xs, SqL K H a' xs) ∧ lcK (Itl K a') (gName j) tt te vs σ H Q :=
  ⟨a, rfl, ⟨src, hx⟩, fun Dl hD => lc_list (xs := src) (fun i H' => H Dl = none ∧ Same H H' ∧ H' Dl = some (.lst (added f gv (src.take i)))) ⟨hD, same_upd hD, upd_same⟩ (fun i H' _ p => p.2.1.seq hx)
    (fun i x H' hi p => ⟨hw x, lc_turn hi hz (fun H1 => ht x (List.mem_of_getElem? hi) H1) (fun c H1 => he x (List.mem_of_getElem? hi) c H1) p⟩)
    (fun H' p => k Dl H' p.1 p.2.1 (by rw [← List.take_length (l := src)]; exact p.2.2))⟩
/-- the ints lo, lo + 1, .. -/
def rangeV (lo : Int) (n : Nat) : List V := (List.range n).map fun (i : Nat) => V.int (lo + (i : Int))
theorem rangeV_at {lo : Int} {n i : Nat} (h : i < n) : (rangeV lo n)[i]? = some (.int (lo + (i : Int))) := by
  unfold rangeV
  rw [List.getElem?_map, List.getElem?_range h]
  rfl
theorem rangeV_len (lo : Int) (n : Nat) : (rangeV lo n).length = n := by
  unfold rangeV
  rw [List.length_map, List.length_range]
theorem lcr {lo : Int} {n : Nat} (f : V → Bool) (gv : V → V) (hz : n < sizeLine) (hw : ∀ x, wipe ((wipe σ vs).set j (some x)) vs = wipe σ vs)
    (ht : ∀ i : Nat, i < n → ∀ H', Same H H' → ∀ R : Bool → Hp → Prop, (∀ H2, Same H' H2 → R (f (.int (lo + (i : Int)))) H2) → tt ((wipe σ vs).set j (some (.int (lo + (i : Int))))) H' R)
    (he : ∀ i : Nat, i < n → f (.int (lo + (i : Int))) = true → ∀ H', Same H H' → ∀ R : VK, (∀ H2, Same H' H2 → R (gv (.int (lo + (i : Int)))) H2) → te ((wipe σ vs).set j (some (.int (lo + (i : Int))))) H' R)
    (k : ∀ p H', H p = none → Same H H' → H' p = some (.lst (added f gv (rangeV lo n))) → Q (.ref p) H') : lcK (Itr lo n) (gName j) tt te vs σ H Q := fun Dl hD =>
  lc_range (lo := lo) (n := n) (fun i H' => H Dl = none ∧ Same H H' ∧ H' Dl = some (.lst (added f gv ((rangeV lo n).take i)))) ⟨hD, same_upd hD, upd_same⟩
    (fun i H' hi p => ⟨hw _, lc_turn (rangeV_at hi) (by rw [rangeV_len]; exact hz) (fun H1 => ht i hi H1) (fun c H1 => he i hi c H1) p⟩)
    (fun H' p => k Dl H' p.1 p.2.1 (by have e := p.2.2; rw [List.take_of_length_le (by rw [rangeV_len]; exact Nat.le_refl n)] at e; exact e))
theorem w_lcr1 {n : Int} (f : V → Bool) (gv : V → V) (h0 : -1000000 ≤ n) (h1 : n ≤ 1000000) (hw : ∀ x, wipe ((wipe σ vs).set j (some x)) vs = wipe σ vs)
    (ht : ∀ i : Nat, (i : Int) < n → ∀ H', Same H H' → ∀ R : Bool → Hp → Prop, (∀ H2, Same H' H2 → R (f (.int (i : Int))) H2) → tt ((wipe σ vs).set j (some (.int (i : Int)))) H' R)
    (he : ∀ i : Nat, (i : Int) < n → f (.int (i : Int)) = true → ∀ H', Same H H' → ∀ R : VK, (∀ H2, Same H' H2 → R (gv (.int (i : Int))) H2) → te ((wipe σ vs).set j (some (.int (i : Int)))) H' R)
    (k : ∀ p H', H p = none → Same H H' → H' p = some (.lst (added f gv (rangeV 0 n.toNat))) → Q (.ref p) H') : ∃ m : Int, [V.int n] = [.int m] ∧ -(2 ^ 62) ≤ m ∧ m < 2 ^ 62 ∧ lcK (Itr 0 m.toNat) (gName j) tt te vs σ H Q :=
  ⟨n, rfl, by omega, by omega, lcr f gv (Nat.lt_of_le_of_lt (show n.toNat ≤ 1000000 by omega) (by decide)) hw (fun i hi H1 s R r => by
      have e : (0 : Int) + (i : Int) = (i : Int) := Int.zero_add _
      simp only [e] at r ⊢
      exact ht i (by omega) H1 s R r) (fun i hi c H1 s R r => by
      have e : (0 : Int) + (i : Int) = (i : Int) := Int.zero_add _
      simp only [e] at c r ⊢
      exact he i (by omega) c H1 s R r) k⟩
theorem w_lcr2 {lo n : Int} (f : V → Bool) (gv : V → V) (h0 : -1000000 ≤ lo ∧ lo ≤ 1000000) (h1 : -1000000 ≤ n ∧ n ≤ 1000000) (hw : ∀ x, wipe ((wipe σ vs).set j (some x)) vs = wipe σ vs)
    (ht : ∀ i : Nat, lo + (i : Int) < n → ∀ H', Same H H' → ∀ R : Bool → Hp → Prop, (∀ H2, Same H' H2 → R (f (.int (lo + (i : Int)))) H2) → tt ((wipe σ vs).set j (some (.int (lo + (i : Int))))) H' R)
    (he : ∀ i : Nat, lo + (i : Int) < n → f (.int (lo + (i : Int))) = true → ∀ H', Same H H' → ∀ R : VK, (∀ H2, Same H' H2 → R (gv (.int (lo + (i : Int)))) H2) → te ((wipe σ vs).set j (some (.int (lo + (i : Int))))) H' R)
    (k : ∀ p H', H p = none → Same H H' → H' p = some (.lst (added f gv (rangeV lo (n - lo).toNat))) → Q (.ref p) H') :
    ∃ i m : Int, [V.int lo, V.int n] = [.int i, .int m] ∧ (-(2 ^ 62) ≤ i ∧ i < 2 ^ 62 ∧ -(2 ^ 62) ≤ m ∧ m < 2 ^ 62) ∧ lcK (Itr i (m - i).toNat) (gName j) tt te vs σ H Q :=
  ⟨lo, n, rfl, ⟨by omega, by omega, by omega, by omega⟩, lcr f gv (Nat.lt_of_le_of_lt (show (n - lo).toNat ≤ 2000000 by omega) (by decide)) hw (fun i hi H1 s R r => ht i (by omega) H1 s R r) (fun i hi c H1 s R r => he i (by omega) c H1 s R r) k⟩
theorem w_forl {a : Addr} {xs : List V} (Pv : Nat → L2.St → Hp → Prop) (hx : SqL K H a xs) (h0 : Pv 0 σ H) (hl : ∀ i σ H, i ≤ xs.length → Pv i σ H → SqL K H a xs)
    (hs : ∀ i x σ H, xs[i]? = some x → Pv i σ H → g x σ H fun σ2 H2 => tb { D with nx := Pv (i + 1), ct := Pv (i + 1), bk := D.nx } σ2 H2) (hd : ∀ σ H, Pv xs.length σ H → D.nx σ H) :
    ∃ a', V.ref a = .ref a' ∧ (∃ xs, SqL K H a' xs) ∧ forK (Itl K a') g tb D σ H := ⟨a, rfl, ⟨xs, hx⟩, for_list Pv h0 hl hs hd⟩
theorem w_forr1 {n : Int} (Pv : Nat → L2.St → Hp → Prop) (hn : -1000000 ≤ n ∧ n ≤ 1000000) (h0 : Pv 0 σ H)
    (hs : ∀ (i : Nat) σ H, (i : Int) < n → Pv i σ H → g (.int (i : Int)) σ H fun σ2 H2 => tb { D with nx := Pv (i + 1), ct := Pv (i + 1), bk := D.nx } σ2 H2) (hd : ∀ σ H, Pv n.toNat σ H → D.nx σ H) :
    ∃ m : Int, [V.int n] = [.int m] ∧ -(2 ^ 62) ≤ m ∧ m < 2 ^ 62 ∧ forK (Itr 0 m.toNat) g tb D σ H :=
  ⟨n, rfl, by omega, by omega, for_range (lo := 0) (n := n.toNat) Pv h0 (fun i σ H hi p => by
    have e : (0 : Int) + (i : Int) = (i : Int) := Int.zero_add _
    rw [e]
    exact hs i σ H (by omega) p) hd⟩
theorem w_forr3 {lo hi c : Int} {n : Nat} (hr : RgC lo hi c n) (Pv : Nat → L2.St → Hp → Prop) (h0 : Pv 0 σ H)
    (hs : ∀ (i : Nat) σ H, i < n → Pv i σ H → g (.int (lo + (i : Nat) * c)) σ H fun σ2 H2 => tb { D with nx := Pv (i + 1), ct := Pv (i + 1), bk := D.nx } σ2 H2) (hd : ∀ σ H, Pv n σ H → D.nx σ H) :
    ∃ (i j c' : Int) (n' : Nat), [V.int lo, V.int hi, V.int c] = [.int i, .int j, .int c'] ∧ RgC i j c' n' ∧ forK (Itc i c' n') g tb D σ H := ⟨lo, hi, c, n, rfl, hr, for_rangeC Pv h0 hs hd⟩
end
/-- one step, where nothing is to be chosen -/
local macro_rules | `(tactic| walk_at "w1") => `(tactic| with_reducible first
  | refine w_seq ?_ | refine w_asg ?_ | refine w_name ?_ | refine w_ret ?_ | refine w_retN ?_ | refine w_drop ?_ | refine w_next ?_ | refine w_if ?_ | refine w_ifE ?_ | refine w_test ?_ | refine w_B ?_ | refine w_bl ?_
  | refine w_not ?_ | refine w_and ?_ | refine w_or ?_ | refine w_andV ?_ | refine w_orV ?_ | refine w_notV ?_ | refine w_isN ?_ | refine w_notN ?_ | refine w_yes ?_
  | refine w_c ?_ | refine w_op ?_ | refine w_un ?_ | refine w_i0 ?_ | refine w_neg ?_ | refine w_nil ?_ | refine w_cons ?_ | refine w_cb ?_ | refine w_call ?_ | refine w_tup ?_ | refine w_lst ?_
  | refine w_fld ?_ | refine w_sfld ?_ | refine w_match ?_ | refine w_case ?_ | refine w_mcons ?_ | refine w_mnil ?_ | refine w_mcap ?_ | refine w_many ?_ | refine w_myes ?_
  | refine w_sub ?_ | refine w_bm ?_ | refine w_sl ?_ | refine w_nopart ?_ | refine w_part ?_ | refine w_int ?_ | refine w_ift ?_ | refine w_iff ?_ | refine w_ifn ?_ | refine w_dget2 ?_ | refine w_star ?_ | refine w_dput ?_ | refine w_dnewK ?_ | refine w_meth ?_ | refine w_oneOf ?_ | refine w_make ?_ | refine w_lc ?_ | refine w_for ?_ | refine w_ilist ?_ | refine w_irng1 ?_ | refine w_irng2 ?_ | refine w_irng3 ?_)
local macro_rules | `(tactic| walk_at "w2") => `(tactic| first
  | ((with_reducible refine' w_var ?wh ?_); (case wh => rfl))
  | ((with_reducible refine' w_eq ?wh ?_); (case wh => rfl))
  | ((with_reducible refine' w_ne ?wh ?_); (case wh => rfl))
  | ((with_reducible refine' w_mno ?wh ?_); (case wh => decide +kernel))
  | ((with_reducible refine' w_mhit ?wh ?wl ?_); (case wh => assumption); (case wl => rfl))
  | ((with_reducible refine' w_mmiss ?wh ?wl ?_); (case wh => assumption); (case wl => simp))
  | ((with_reducible refine' w_fldA ?wh ?wc ?wn ?wl ?_); (case wh => first | assumption | exact upd_same); (case wc => assumption); (case wn => assumption); (case wl => walk_at "lk"))
  | ((with_reducible refine' w_ixl ?wh ?we ?_); (case wh => exact SqL.of (by first | assumption | exact upd_same)); (case we => rfl))
  | ((with_reducible refine' w_ixt ?wh ?we ?_); (case wh => assumption); (case we => rfl))
  | ((with_reducible refine' w_ifT ?wh ?_); (case wh => (with_reducible exact Eq.refl _)))
  | ((with_reducible refine' w_ifF ?wh ?_); (case wh => decide +kernel))
  | ((with_reducible refine' w_isiY ?wh ?wk ?_); (case wh => first | exact .int _ | exact .str _ | exact .lst (by assumption) | exact .tup (by assumption)); (case wk => decide +kernel))
  | ((with_reducible refine' w_isiN ?wh ?wk ?_); (case wh => first | exact .int _ | exact .str _ | exact .lst (by assumption) | exact .tup (by assumption)); (case wk => decide +kernel))
  | ((with_reducible refine' w_ifF ?wh ?_); (case wh => (intro z; cases z; done)))
  | ((with_reducible refine' w_setl ?wh ?we ?wl ?_); (case wh => first | assumption | exact upd_same); (case we => rfl); (case wl => rfl))
  | ((with_reducible refine' w_methA ?wh ?wl ?_); (case wh => first | assumption | exact upd_same); (case wl => walk_at "lk"))
  | ((with_reducible refine' w_sfldB ?wc ?wn ?wz ?wl ?_); (case wc => assumption); (case wn => assumption); (case wz => simp); (case wl => walk_at "pf"))
  | ((with_reducible refine' w_sfldA ?wh ?wc ?wn ?wz ?wl ?_); (case wh => assumption); (case wc => assumption); (case wn => assumption); (case wz => simp); (case wl => walk_at "pf")))
local macro_rules | `(tactic| walk_at "w") => `(tactic| repeat (first | walk_at "w1" | walk_at "w2" | (dsimp only [List.set, setAll, List.append, List.cons_append, List.nil_append])))
end SwX
set_option Elab.async false
set_option linter.all false
set_option maxRecDepth 100000
set_option maxHeartbeats 4000000
namespace SwD
open PySem PySem.Spec PyProof.Rows L2 SwX StX Sw
local macro_rules | `(tactic| walk_at "lk") => `(tactic| first | exact lk_at | exact lk_no | ((refine' lk_by (by decide +kernel) ?wq); (case wq => walk_at "lk")))
local macro_rules | `(tactic| walk_at "pf") => `(tactic| first | exact pf_at | exact pf_nil | ((refine' pf_by (by decide +kernel) ?wq); (case wq => walk_at "pf")))
local macro_rules | `(tactic| walk_at "w1") => `(tactic| with_reducible first
  | refine w_seq ?_ | refine w_asg ?_ | refine w_name ?_ | refine w_ret ?_ | refine w_retN ?_ | refine w_drop ?_ | refine w_next ?_ | refine w_if ?_ | refine w_ifE ?_ | refine w_test ?_ | refine w_B ?_ | refine w_bl ?_
  | refine w_not ?_ | refine w_and ?_ | refine w_or ?_ | refine w_andV ?_ | refine w_orV ?_ | refine w_notV ?_ | refine w_isN ?_ | refine w_notN ?_ | refine w_yes ?_
  | refine w_c ?_ | refine w_op ?_ | refine w_un ?_ | refine w_i0 ?_ | refine w_neg ?_ | refine w_nil ?_ | refine w_cons ?_ | refine w_cb ?_ | refine w_call ?_ | refine w_tup ?_ | refine w_lst ?_
  | refine w_fld ?_ | refine w_sfld ?_ | refine w_match ?_ | refine w_case ?_ | refine w_mcons ?_ | refine w_mnil ?_ | refine w_mcap ?_ | refine w_many ?_ | refine w_myes ?_
  | refine w_sub ?_ | refine w_bm ?_ | refine w_sl ?_ | refine w_nopart ?_ | refine w_part ?_ | refine w_int ?_ | refine w_ift ?_ | refine w_iff ?_ | refine w_ifn ?_ | refine w_dget2 ?_ | refine w_star ?_ | refine w_dput ?_ | refine w_dnewK ?_ | refine w_meth ?_ | refine w_oneOf ?_ | refine w_make ?_ | refine w_lc ?_ | refine w_for ?_ | refine w_ilist ?_ | refine w_irng1 ?_ | refine w_irng2 ?_ | refine w_irng3 ?_)
local macro_rules | `(tactic| walk_at "w2") => `(tactic| first
  | ((with_reducible refine' w_var ?wh ?_); (case wh => rfl))
  | ((with_reducible refine' w_eq ?wh ?_); (case wh => rfl))
  | ((with_reducible refine' w_ne ?wh ?_); (case wh => rfl))
  | ((with_reducible refine' w_mno ?wh ?_); (case wh => decide +kernel))
  | ((with_reducible refine' w_mhit ?wh ?wl ?_); (case wh => assumption); (case wl => rfl))
  | ((with_reducible refine' w_mmiss ?wh ?wl ?_); (case wh => assumption); (case wl => simp))
  | ((with_reducible refine' w_fldA ?wh ?wc ?wn ?wl ?_); (case wh => first | assumption | exact upd_same); (case wc => assumption); (case wn => assumption); (case wl => walk_at "lk"))
  | ((with_reducible refine' w_ixl ?wh ?we ?_); (case wh => exact SqL.of (by first | assumption | exact upd_same)); (case we => rfl))
  | ((with_reducible refine' w_ixt ?wh ?we ?_); (case wh => assumption); (case we => rfl))
  | ((with_reducible refine' w_ifT ?wh ?_); (case wh => (with_reducible exact Eq.refl _)))
  | ((with_reducible refine' w_ifF ?wh ?_); (case wh => decide +kernel))
  | ((with_reducible refine' w_isiY ?wh ?wk ?_); (case wh => first | exact .int _ | exact .str _ | exact .lst (by assumption) | exact .tup (by assumption)); (case wk => decide +kernel))
  | ((with_reducible refine' w_isiN ?wh ?wk ?_); (case wh => first | exact .int _ | exact .str _ | exact .lst (by assumption) | exact .tup (by assumption)); (case wk => decide +kernel))
  | ((with_reducible refine' w_ifF ?wh ?_); (case wh => (intro z; cases z; done)))
  | ((with_reducible refine' w_setl ?wh ?we ?wl ?_); (case wh => first | assumption | exact upd_same); (case we => rfl); (case wl => rfl))
  | ((with_reducible refine' w_methA ?wh ?wl ?_); (case wh => first | assumption | exact upd_same); (case wl => walk_at "lk"))
  | ((with_reducible refine' w_sfldB ?wc ?wn ?wz ?wl ?_); (case wc => assumption); (case wn => assumption); (case wz => simp); (case wl => walk_at "pf"))
  | ((with_reducible refine' w_sfldA ?wh ?wc ?wn ?wz ?wl ?_); (case wh => assumption); (case wc => assumption); (case wn => assumption); (case wz => simp); (case wl => walk_at "pf")))
local macro_rules | `(tactic| walk_at "w") => `(tactic| repeat (first | walk_at "w1" | walk_at "w2" | (dsimp only [List.set, setAll, List.append, List.cons_append, List.nil_append])))
/-! ### where the classes stand -/
structure CA where
  Silent : Addr
  Neighbours : Addr
  Strides : Addr
  Pairs : Addr
  Both : Addr
structure GF (K : PySem.W.Frag) (c : CA) : Prop where
  cN : Cls K c.Neighbours
  cS : Cls K c.Strides
  cP : Cls K c.Pairs
  cB : Cls K c.Both
  nN1 : NoAttr K c.Neighbours "many"
  nS1 : NoAttr K c.Strides "times"
  nS2 : NoAttr K c.Strides "last"
  nS3 : NoAttr K c.Strides "stride"
  nS4 : NoAttr K c.Strides "same"
  nP1 : NoAttr K c.Pairs "many"
  nP2 : NoAttr K c.Pairs "last"
  nP3 : NoAttr K c.Pairs "followers"
  nB1 : NoAttr K c.Both "one"
  nB2 : NoAttr K c.Both "other"
def optV : Option Int → V
  | none => .non
  | some i => .int i
/-! ### how a guesser's state lies in the heap: M holds all of its addresses -/
def Fol (H : Hp) (M : Addr → Prop) (o : Option V) (xs : List Int) : Prop := match o with
  | none => xs = []
  | some v => ∃ l, v = .ref l ∧ H l = some (.lst (xs.map V.int)) ∧ M l
def GAt (c : CA) (H : Hp) (N : Nat) : S → Addr → (Addr → Prop) → Prop
  | .silent, p, M => ∃ dx, H p = some (.ins c.Silent dx []) ∧ M p
  | .neigh m, p, M => ∃ dx, H p = some (.ins c.Neighbours dx [("many", .int m)]) ∧ M p
  | .strid t l s k, p, M => ∃ dx, H p = some (.ins c.Strides dx [("times", .int t), ("last", optV l), ("stride", .int s), ("same", .int k)]) ∧ M p
  | .pairs m l f, p, M => ∃ dx d kvs, H p = some (.ins c.Pairs dx [("many", .int m), ("last", optV l), ("followers", .ref d)]) ∧ M p ∧ H d = some (.dK kvs) ∧ M d ∧ kvs.length ≤ N ∧ ∀ k, Fol H M (valV kvs (Sum.inl k)) (f k)
  | .both a b, p, M => ∃ dx pa pb A B, H p = some (.ins c.Both dx [("one", .ref pa), ("other", .ref pb)]) ∧ M p ∧ GAt c H N a pa A ∧ GAt c H N b pb B ∧ (∀ x, A x → M x) ∧ (∀ x, B x → M x) ∧ (∀ x, A x → ¬ B x) ∧ ¬ A p ∧ ¬ B p
def Dom (M : Addr → Prop) (H : Hp) : Prop := ∀ a, M a → ∃ o, H a = some o
theorem fol_keep {H H' : Hp} {M : Addr → Prop} {o : Option V} {xs : List Int} (k : ∀ a, M a → H' a = H a) (h : Fol H M o xs) : Fol H' M o xs := by
  cases o with
  | none => exact h
  | some v =>
    obtain ⟨l, e, hl, m⟩ := h
    exact ⟨l, e, by rw [k l m]; exact hl, m⟩
theorem gat_keep {c : CA} {H H' : Hp} {N : Nat} : ∀ {s : S} {p : Addr} {M : Addr → Prop}, (∀ a, M a → H' a = H a) → GAt c H N s p M → GAt c H' N s p M
  | .silent, p, M, k, ⟨dx, h, m⟩ => ⟨dx, by rw [k p m]; exact h, m⟩
  | .neigh _, p, M, k, ⟨dx, h, m⟩ => ⟨dx, by rw [k p m]; exact h, m⟩
  | .strid _ _ _ _, p, M, k, ⟨dx, h, m⟩ => ⟨dx, by rw [k p m]; exact h, m⟩
  | .pairs _ _ _, p, M, k, ⟨dx, d, kvs, h, m, hd, md, hl, hf⟩ => ⟨dx, d, kvs, by rw [k p m]; exact h, m, by rw [k d md]; exact hd, md, hl, fun q => fol_keep k (hf q)⟩
  | .both _ _, p, M, k, ⟨dx, pa, pb, A, B, h, m, ha, hb, iA, iB, dj, nA, nB⟩ =>
    ⟨dx, pa, pb, A, B, by rw [k p m]; exact h, m, gat_keep (fun a q => k a (iA a q)) ha, gat_keep (fun a q => k a (iB a q)) hb, iA, iB, dj, nA, nB⟩
theorem gat_more {c : CA} {H : Hp} {N N' : Nat} (hn : N ≤ N') : ∀ {s : S} {p : Addr} {M : Addr → Prop}, GAt c H N s p M → GAt c H N' s p M
  | .silent, _, _, h => h
  | .neigh _, _, _, h => h
  | .strid _ _ _ _, _, _, h => h
  | .pairs _ _ _, _, _, ⟨dx, d, kvs, h, m, hd, md, hl, hf⟩ => ⟨dx, d, kvs, h, m, hd, md, Nat.le_trans hl hn, hf⟩
  | .both _ _, _, _, ⟨dx, pa, pb, A, B, h, m, ha, hb, r⟩ => ⟨dx, pa, pb, A, B, h, m, gat_more hn ha, gat_more hn hb, r⟩
theorem gat_own {c : CA} {H : Hp} {N : Nat} : ∀ {s : S} {p : Addr} {M : Addr → Prop}, GAt c H N s p M → M p
  | .silent, _, _, ⟨_, _, m⟩ => m
  | .neigh _, _, _, ⟨_, _, m⟩ => m
  | .strid _ _ _ _, _, _, ⟨_, _, m⟩ => m
  | .pairs _ _ _, _, _, ⟨_, _, _, _, m, _⟩ => m
  | .both _ _, _, _, ⟨_, _, _, _, _, _, m, _⟩ => m
/-- a wider M -/
theorem fol_wide {H : Hp} {M M' : Addr → Prop} {o : Option V} {xs : List Int} (k : ∀ a, M a → M' a) (h : Fol H M o xs) : Fol H M' o xs := by
  cases o with
  | none => exact h
  | some v =>
    obtain ⟨l, e, hl, m⟩ := h
    exact ⟨l, e, hl, k l m⟩
/-! ### the sizes of what is told -/
def Good : S → Prop
  | .silent => True
  | .neigh m => 0 ≤ m ∧ m ≤ 100
  | .strid _ _ _ _ => True
  | .pairs m _ f => 0 ≤ m ∧ m ≤ 100 ∧ ∀ k, (f k).length ≤ 100
  | .both a b => Good a ∧ Good b
def deep : S → Nat
  | .both a b => max (deep a) (deep b) + 1
  | _ => 0
theorem deep_next : ∀ (s : S) (x : Int), deep (s.next x) = deep s
  | .silent, _ => rfl
  | .neigh _, _ => rfl
  | .strid _ _ _ _, _ => rfl
  | .pairs _ _ _, _ => rfl
  | .both a b, x => by
    show max (deep (a.next x)) (deep (b.next x)) + 1 = max (deep a) (deep b) + 1
    rw [deep_next a x, deep_next b x]
theorem behind_le (f : Int → List Int) {m : Int} (h0 : 0 ≤ m) (h1 : m ≤ 100) (q p : Int) : (behind f m q p).length ≤ 100 := by
  unfold behind
  rw [List.length_take]
  omega
theorem good_next : ∀ {s : S} (x : Int), Good s → Good (s.next x)
  | .silent, _, h => h
  | .neigh _, _, h => h
  | .strid _ _ _ _, _, _ => trivial
  | .pairs m l f, x, ⟨h0, h1, h2⟩ => by
    refine ⟨h0, h1, fun k => ?_⟩
    cases l with
    | none => exact h2 k
    | some q =>
      show (if k = q then behind f m q x else f k).length ≤ 100
      split
      · exact behind_le f h0 h1 q x
      · exact h2 k
  | .both a b, x, h => ⟨good_next x h.1, good_next x h.2⟩
theorem says_le : ∀ {s : S} (x : Int), Good s → (s.says x).length ≤ 100 * 2 ^ deep s
  | .silent, _, _ => by show 0 ≤ _; omega
  | .neigh m, x, h => by
    show (nexts x m).length ≤ 100 * 2 ^ 0
    unfold nexts
    rw [List.length_map, List.length_range]
    have := h.2
    have := h.1
    omega
  | .strid t l s k, x, _ => by
    show (strideSays t x _).length ≤ 100 * 2 ^ 0
    unfold strideSays
    split
    · show 0 ≤ _
      omega
    · show 1 ≤ _
      omega
  | .pairs m l f, x, ⟨h0, h1, h2⟩ => by
    show (folOf l f m x x).length ≤ 100 * 2 ^ 0
    cases l with
    | none => exact h2 x
    | some q =>
      show (if x = q then behind f m q x else f x).length ≤ 100
      split
      · exact behind_le f h0 h1 q x
      · exact h2 x
  | .both a b, x, h => by
    show (joined (a.says x) (b.says x)).length ≤ 100 * 2 ^ (max (deep a) (deep b) + 1)
    unfold joined
    rw [List.length_append]
    have h1 := says_le x h.1
    have h2 := says_le x h.2
    have h3 := List.length_filter_le (fun v => decide (v ∉ a.says x)) (b.says x)
    have h4 : 2 ^ deep a ≤ 2 ^ max (deep a) (deep b) := Nat.pow_le_pow_right (by decide) (Nat.le_max_left _ _)
    have h5 : 2 ^ deep b ≤ 2 ^ max (deep a) (deep b) := Nat.pow_le_pow_right (by decide) (Nat.le_max_right _ _)
    rw [Nat.pow_succ]
    omega
theorem good_begun : ∀ {g : G}, g.ok → Good (begun g)
  | .non, _ => trivial
  | .next _, h => ⟨by have := h.1; omega, by have := h.2; omega⟩
  | .stride _, _ => trivial
  | .pairs _, h => ⟨by have := h.1; omega, by have := h.2; omega, fun _ => Nat.zero_le _⟩
  | .both _ _, h => ⟨good_begun h.1, good_begun h.2⟩
theorem deep_begun : ∀ g : G, deep (begun g) = g.depth
  | .non => rfl
  | .next _ => rfl
  | .stride _ => rfl
  | .pairs _ => rfl
  | .both a b => by
    show max (deep (begun a)) (deep (begun b)) + 1 = max a.depth b.depth + 1
    rw [deep_begun a, deep_begun b]
/-! ### promises of the guessers' defs -/
/-- an __init__: the attributes are laid -/
def spMade (C : Addr) (args : List V) (fs : List (Str × V)) : Sp := fun vs H Q _ => ∃ p dx, vs = .ref p :: args ∧ H p = some (.ins C dx []) ∧ ∀ H', H' p = some (.ins C dx fs) → Out (Is p) H H' → Q .non H'
/-- guess of an object of at most so many both within -/
def spGuess (c : CA) (n : Nat) : Sp := fun vs H Q _ => ∃ p x s M N, vs = [.ref p, .int x] ∧ GAt c H N s p M ∧ Dom M H ∧ deep s ≤ n ∧ Good s ∧ N < 100000 ∧
  ∀ H' q M', H q = none → H' q = some (.lst ((s.says x).map V.int)) → ¬ M' q → GAt c H' (N + 1) (s.next x) p M' → Dom M' H' → (∀ a, M a → M' a) → (∀ a, M' a → M a ∨ H a = none) → Out M H H' → Q (.ref q) H'
section
variable {K : PySem.W.Frag} {c : CA}
def t_Silent_guess : TS := tRet (tLst (tNil))
def t_Neighbours_init (K : PySem.W.Frag) : TS := sFld K (tVar 0) (tVar 1) "many"
def t_Neighbours_guess (K : PySem.W.Frag) : TS := tRet (tLc (iRng2 (tCons (tC (.int 1)) (tCons (tOp (rAddI) (tFld K (tVar 0) "many") (tC (.int 1))) (tNil)))) (gName 2) (tYes) (tOp (rAddI) (tVar 1) (tVar 2)) [2])
def t_Strides_init (K : PySem.W.Frag) : TS := tSeq (sFld K (tVar 0) (tVar 1) "times")
  (tSeq (sFld K (tVar 0) (tC .non) "last")
  (tSeq (sFld K (tVar 0) (tC (.int 0)) "stride")
  (sFld K (tVar 0) (tC (.int 0)) "same")))
def t_Both_init (K : PySem.W.Frag) : TS := tSeq (sFld K (tVar 0) (tVar 1) "one")
  (sFld K (tVar 0) (tVar 2) "other")
abbrev B (Q : VK) : Ends := { nx := fun _ H' => Q .non H', rt := Q }
theorem pu_Silent_guess {vs : List V} {H : Hp} {Q : VK} {E : XK} {n : Nat} (h : ∃ x : Int, ∃ p dx : Addr, ∃ M : Addr → Prop, ∃ N : Nat, vs = [.ref p, .int x] ∧ H p = some (.ins c.Silent dx []) ∧ M p ∧ Dom M H ∧ 
   ∀ H' q M', H q = none → H' q = some (.lst []) → ¬ M' q → GAt c H' (N + 1) .silent p M' → Dom M' H' → (∀ a, M a → M' a) → (∀ a, M' a → M a ∨ H a = none) → Out M H H' → Q (.ref q) H') : t_Silent_guess (B Q) (start ["self", "place"] vs) H := by
  obtain ⟨x, p, dx, M, N, rfl, hp, hm, hd, k⟩ := h
  unfold t_Silent_guess
  walk_at "w"
  refine ⟨by decide, w_new fun q H' hq e hq' => ?_⟩
  exact k H' q M hq hq' (fun z => by obtain ⟨o, ho⟩ := hd q z; rw [hq] at ho; cases ho) ⟨dx, e _ _ hp, hm⟩ (fun a z => by obtain ⟨o, ho⟩ := hd a z; exact ⟨o, e _ _ ho⟩) (fun _ z => z) (fun a z => .inl z) (same_out e)
theorem pu_Neighbours_init (T : GF K c) {vs : List V} {H : Hp} {Q : VK} {E : XK} {m : Int} (h : spMade c.Neighbours [.int m] [("many", .int m)] vs H Q E) : t_Neighbours_init K (B Q) (start ["self", "many"] vs) H := by
  obtain ⟨p, dx, rfl, hp, k⟩ := h
  obtain ⟨cN, cS, cP, cB, nN1, nS1, nS2, nS3, nS4, nP1, nP2, nP3, nB1, nB2⟩ := id T
  unfold t_Neighbours_init
  walk_at "w"
  exact k _ upd_same out_upd
theorem pu_Strides_init (T : GF K c) {vs : List V} {H : Hp} {Q : VK} {E : XK} {t : Int} (h : spMade c.Strides [.int t] [("times", .int t), ("last", .non), ("stride", .int 0), ("same", .int 0)] vs H Q E) : t_Strides_init K (B Q) (start ["self", "times"] vs) H := by
  obtain ⟨p, dx, rfl, hp, k⟩ := h
  obtain ⟨cN, cS, cP, cB, nN1, nS1, nS2, nS3, nS4, nP1, nP2, nP3, nB1, nB2⟩ := id T
  unfold t_Strides_init
  walk_at "w"
  exact k _ upd_same out_upd
/-- attributes laid, the dict new -/
def spPairsInit (c : CA) : Sp := fun vs H Q _ => ∃ p dx m, vs = [.ref p, .int m] ∧ H p = some (.ins c.Pairs dx []) ∧ ∀ H' d, H d = none → H' p = some (.ins c.Pairs dx [("many", .int m), ("last", .non), ("followers", .ref d)]) → H' d = some (.dK []) → Out (Is p) H H' → Q .non H'
def t_Pairs_init (K : PySem.W.Frag) : TS := tSeq (sFld K (tVar 0) (tVar 1) "many")
  (tSeq (sFld K (tVar 0) (tC .non) "last")
  (sFld K (tVar 0) (tDNewK) "followers"))
theorem pu_Pairs_init (T : GF K c) {vs : List V} {H : Hp} {Q : VK} {E : XK} (h : spPairsInit c vs H Q E) : t_Pairs_init K (B Q) (start ["self", "many"] vs) H := by
  obtain ⟨p, dx, m, rfl, hp, k⟩ := h
  obtain ⟨cN, cS, cP, cB, nN1, nS1, nS2, nS3, nS4, nP1, nP2, nP3, nB1, nB2⟩ := id T
  unfold t_Pairs_init
  walk_at "w"
  intro d hd
  have hdp : d ≠ p := fun e => by rw [e, upd_same] at hd; cases hd
  have e1 : upd (upd H p (.ins c.Pairs dx [("many", V.int m), ("last", V.non)])) d (.dK []) p = some (.ins c.Pairs dx [("many", V.int m), ("last", V.non)]) := by
    rw [upd_ne hdp.symm, upd_same]
  walk_at "w"
  refine k _ d (by rw [upd_ne hdp] at hd; exact hd) upd_same (by rw [upd_ne hdp, upd_same]) ?_
  intro b o hb nb
  rw [upd_ne nb, upd_ne (fun e => by rw [upd_ne hdp] at hd; rw [e, hd] at hb; cases hb), upd_ne nb]
  exact hb
theorem pu_Both_init (T : GF K c) {vs : List V} {H : Hp} {Q : VK} {E : XK} {x y : V} (h : spMade c.Both [x, y] [("one", x), ("other", y)] vs H Q E) : t_Both_init K (B Q) (start ["self", "one", "other"] vs) H := by
  obtain ⟨p, dx, rfl, hp, k⟩ := h
  obtain ⟨cN, cS, cP, cB, nN1, nS1, nS2, nS3, nS4, nP1, nP2, nP3, nB1, nB2⟩ := id T
  unfold t_Both_init
  walk_at "w"
  exact k _ upd_same out_upd
theorem added_all (g : V → V) (l : List V) : added (fun _ => true) g l = l.map g := by
  unfold added
  rw [List.filter_eq_self.mpr (fun _ _ => rfl)]
theorem nexts_ints (x m : Int) : added (fun _ => true) (fun v => match v with | .int i => .int (x + i) | _ => .non) (rangeV 1 ((m + 1) - 1).toNat) = (nexts x m).map V.int := by
  rw [added_all]
  unfold rangeV nexts
  rw [List.map_map, List.map_map, show m + 1 - 1 = m by omega]
  rfl
theorem not_dom {M : Addr → Prop} {H : Hp} {q : Addr} (d : Dom M H) (h : H q = none) : ¬ M q := fun z => by
  obtain ⟨o, ho⟩ := d q z
  rw [h] at ho
  cases ho
theorem dom_same {M : Addr → Prop} {H H' : Hp} (d : Dom M H) (e : Same H H') : Dom M H' := fun a z => by
  obtain ⟨o, ho⟩ := d a z
  exact ⟨o, e _ _ ho⟩
theorem gat_same {H H' : Hp} {N : Nat} {s : S} {p : Addr} {M : Addr → Prop} (d : Dom M H) (e : Same H H') (h : GAt c H N s p M) : GAt c H' N s p M :=
  gat_keep (fun a z => by obtain ⟨o, ho⟩ := d a z; rw [ho]; exact e _ _ ho) h
theorem pu_Neighbours_guess (T : GF K c) {vs : List V} {H : Hp} {Q : VK} {E : XK} (h : ∃ x m : Int, ∃ p dx : Addr, ∃ M : Addr → Prop, ∃ N : Nat, vs = [.ref p, .int x] ∧ H p = some (.ins c.Neighbours dx [("many", .int m)]) ∧ M p ∧ Dom M H ∧ 0 ≤ m ∧ m ≤ 100 ∧
   ∀ H' q M', H q = none → H' q = some (.lst ((nexts x m).map V.int)) → ¬ M' q → GAt c H' (N + 1) (.neigh m) p M' → Dom M' H' → (∀ a, M a → M' a) → (∀ a, M' a → M a ∨ H a = none) → Out M H H' → Q (.ref q) H') : t_Neighbours_guess K (B Q) (start ["self", "place", "step"] vs) H := by
  obtain ⟨x, m, p, dx, M, N, rfl, hp, hm, hd, h0, h1, k⟩ := h
  obtain ⟨cN, cS, cP, cB, nN1, nS1, nS2, nS3, nS4, nP1, nP2, nP3, nB1, nB2⟩ := id T
  unfold t_Neighbours_guess
  walk_at "w"
  refine w_lcr2 (fun _ => true) (fun v => match v with | .int i => .int (x + i) | _ => .non) (by omega) (by omega) (fun _ => rfl) (fun i hi H' s R r => ?_) (fun i hi _ H' s R r => ?_) (fun q H' hq e hq' => ?_)
  · walk_at "w"
    exact r _ (Same.refl _)
  · walk_at "w"
    exact r _ (Same.refl _)
  · rw [nexts_ints] at hq'
    exact k H' q M hq hq' (not_dom hd hq) ⟨dx, e _ _ hp, hm⟩ (dom_same hd e) (fun _ z => z) (fun a z => .inl z) (same_out e)
/-! ### strides -/
def stF (t l s k : V) : List (Str × V) := [("times", t), ("last", l), ("stride", s), ("same", k)]
/-- count_stride: only the stride and the count change -/
def spCount (c : CA) : Sp := fun vs H Q _ => ∃ p dx d t l s k, vs = [.ref p, .int d] ∧ H p = some (.ins c.Strides dx (stF t l (.int s) (.int k))) ∧
  Q .non (upd H p (.ins c.Strides dx (stF t l (.int d) (.int (if d = s then k + 1 else 1)))))
def t_Strides_count_stride (K : PySem.W.Frag) : TS := tSeq (sFld K (tVar 0) (tIf (tTest (tOp (rEq) (tVar 1) (tFld K (tVar 0) "stride"))) (tOp (rAddI) (tFld K (tVar 0) "same") (tC (.int 1))) (tC (.int 1))) "same")
  (sFld K (tVar 0) (tVar 1) "stride")
theorem pu_Strides_count_stride (T : GF K c) {vs : List V} {H : Hp} {Q : VK} {E : XK} (h : spCount c vs H Q E) : t_Strides_count_stride K (B Q) (start ["self", "stride"] vs) H := by
  obtain ⟨p, dx, d, t, l, s, k, rfl, hp, q⟩ := h
  obtain ⟨cN, cS, cP, cB, nN1, nS1, nS2, nS3, nS4, nP1, nP2, nP3, nB1, nB2⟩ := id T
  unfold t_Strides_count_stride
  unfold stF at *
  walk_at "w"
  refine w_if2 (fun e => ?_) (fun e => ?_)
  · walk_at "w"
    have e' : d = s := by simpa using e
    rw [if_pos e'] at q
    exact q
  · walk_at "w"
    have e' : ¬ d = s := by simpa using e
    rw [if_neg e'] at q
    exact q
def t_Strides_guess (K : PySem.W.Frag) (c_Strides : Addr) (sp_Strides_count_stride : Sp) : TS := tSeq (tIfS (tB (tNotN (tFld K (tVar 0) "last"))) (tDrop (tMeth c_Strides "count_stride" sp_Strides_count_stride [] E0 (tVar 0) (tCons (tOp (rSubI) (tVar 1) (tFld K (tVar 0) "last")) (tNil)))) (tNext))
  (tSeq (sFld K (tVar 0) (tVar 1) "last")
  (tSeq (tIfS (tOr (tTest (tOp (rEq) (tFld K (tVar 0) "stride") (tC (.int 0)))) (tTest (tOp (rLtI) (tFld K (tVar 0) "same") (tFld K (tVar 0) "times")))) (tRet (tLst (tNil))) (tNext))
  (tRet (tLst (tCons (tOp (rAddI) (tVar 1) (tFld K (tVar 0) "stride")) (tNil))))))
theorem optV_non (l : Option Int) : decide (optV l = V.non) = l.isNone := by
  cases l with
  | none => rfl
  | some _ => exact decide_eq_false (fun z => nomatch z)
theorem pu_Strides_guess (T : GF K c) {vs : List V} {H : Hp} {Q : VK} {E : XK} (h : ∃ x t s k : Int, ∃ l : Option Int, ∃ p dx : Addr, ∃ M : Addr → Prop, ∃ N : Nat, vs = [.ref p, .int x] ∧ H p = some (.ins c.Strides dx (stF (.int t) (optV l) (.int s) (.int k))) ∧ M p ∧ Dom M H ∧
   ∀ H' q M', H q = none → H' q = some (.lst ((strideSays t x (strideOf l s k x)).map V.int)) → ¬ M' q → GAt c H' (N + 1) (.strid t (some x) (strideOf l s k x).1 (strideOf l s k x).2) p M' → Dom M' H' → (∀ a, M a → M' a) → (∀ a, M' a → M a ∨ H a = none) → Out M H H' → Q (.ref q) H') :
    t_Strides_guess K c.Strides (spCount c) (B Q) (start ["self", "place"] vs) H := by
  obtain ⟨x, t, s, k, l, p, dx, M, N, rfl, hp, hm, hd, q⟩ := h
  obtain ⟨cN, cS, cP, cB, nN1, nS1, nS2, nS3, nS4, nP1, nP2, nP3, nB1, nB2⟩ := id T
  -- behind the stores: the test, the answer
  have fin : ∀ (s' k' : Int) (Hx : Hp) (dx : Addr), strideOf l s k x = (s', k') → Hx = upd H p (.ins c.Strides dx (stF (.int t) (.int x) (.int s') (.int k'))) → 
      tSeq (tIfS (tOr (tTest (tOp (rEq) (tFld K (tVar 0) "stride") (tC (.int 0)))) (tTest (tOp (rLtI) (tFld K (tVar 0) "same") (tFld K (tVar 0) "times")))) (tRet (tLst (tNil))) (tNext))
        (tRet (tLst (tCons (tOp (rAddI) (tVar 1) (tFld K (tVar 0) "stride")) (tNil)))) (B Q) [some (.ref p), some (.int x)] Hx := by
    intro s' k' Hx dx es eH
    rw [es] at q
    have hx : Hx p = some (.ins c.Strides dx [("times", .int t), ("last", .int x), ("stride", .int s'), ("same", .int k')]) := by rw [eH]; exact upd_same
    have ho : ∀ b o, b ≠ p → H b = some o → Hx b = some o := fun b o nb e => by rw [eH, upd_ne nb]; exact e
    have hfr : ∀ b, Hx b = none → H b = none := fun b e => by
      cases z : H b with
      | none => rfl
      | some o =>
        by_cases hb : b = p
        · rw [hb, hx] at e; cases e
        · rw [ho b o hb z] at e; cases e
    have done : ∀ (a : Addr) (H' : Hp) (ys : List Int), Hx a = none → Same Hx H' → H' a = some (.lst (ys.map V.int)) → strideSays t x (s', k') = ys → Q (.ref a) H' := fun a H' ys ha e h1 h2 => by
      refine q H' a M (hfr a ha) (by rw [h2]; exact h1) (not_dom hd (hfr a ha)) ⟨dx, e _ _ hx, hm⟩ (fun b z => ?_) (fun _ z => z) (fun b z => .inl z) (fun b o hb nb => e _ _ (ho b o (fun z => nb (z ▸ hm)) hb))
      obtain ⟨o, hb⟩ := hd b z
      by_cases hbp : b = p
      · exact ⟨_, by rw [hbp]; exact e _ _ hx⟩
      · exact ⟨o, e _ _ (ho b o hbp hb)⟩
    walk_at "w"
    refine w_if2 (fun e1 => ?_) (fun e1 => ?_)
    · have e1' : s' = 0 := by simpa using e1
      walk_at "w"
      refine ⟨by decide, w_new fun a H' ha e h1 => done a H' [] ha e h1 ?_⟩
      unfold strideSays
      rw [if_pos (.inl e1')]
    · have e1' : ¬ s' = 0 := by simpa using e1
      walk_at "w"
      refine w_if2 (fun e2 => ?_) (fun e2 => ?_)
      · walk_at "w"
        refine ⟨by decide, w_new fun a H' ha e h1 => done a H' [] ha e h1 ?_⟩
        unfold strideSays
        rw [if_pos (.inr e2)]
      · walk_at "w"
        refine ⟨small_le (by simp), w_new fun a H' ha e h1 => done a H' [x + s'] ha e h1 ?_⟩
        unfold strideSays
        rw [if_neg]
        rintro (z | z)
        · exact e1' z
        · exact e2 z
  unfold t_Strides_guess
  unfold stF at *
  walk_at "w"
  rw [optV_non]
  cases l with
  | none =>
    refine w_ift ?_
    refine w_next ?_
    dsimp only
    refine w_seq (w_sfld ?_)
    walk_at "w2"
    walk_at "w2"
    walk_at "w2"
    exact fin s k _ dx rfl rfl
  | some y =>
    refine w_iff ?_
    walk_at "w"
    show rSubI (.int x) (.int y) H _
    walk_at "w"
    refine ⟨p, dx, x - y, .int t, .int y, s, k, rfl, hp, ?_⟩
    refine w_seq (w_sfld ?_)
    unfold stF
    walk_at "w2"
    walk_at "w2"
    walk_at "w2"
    exact fin (x - y) _ _ dx rfl rfl
end
end SwD
set_option Elab.async false
set_option linter.all false
set_option maxRecDepth 100000
set_option maxHeartbeats 4000000
namespace SwD
open PySem PySem.Spec PyProof.Rows L2 SwX StX Sw
local macro_rules | `(tactic| walk_at "lk") => `(tactic| first | exact lk_at | exact lk_no | ((refine' lk_by (by decide +kernel) ?wq); (case wq => walk_at "lk")))
local macro_rules | `(tactic| walk_at "pf") => `(tactic| first | exact pf_at | exact pf_nil | ((refine' pf_by (by decide +kernel) ?wq); (case wq => walk_at "pf")))
local macro_rules | `(tactic| walk_at "w1") => `(tactic| with_reducible first
  | refine w_seq ?_ | refine w_asg ?_ | refine w_name ?_ | refine w_ret ?_ | refine w_retN ?_ | refine w_drop ?_ | refine w_next ?_ | refine w_if ?_ | refine w_ifE ?_ | refine w_test ?_ | refine w_B ?_ | refine w_bl ?_
  | refine w_not ?_ | refine w_and ?_ | refine w_or ?_ | refine w_andV ?_ | refine w_orV ?_ | refine w_notV ?_ | refine w_isN ?_ | refine w_notN ?_ | refine w_yes ?_
  | refine w_c ?_ | refine w_op ?_ | refine w_un ?_ | refine w_i0 ?_ | refine w_neg ?_ | refine w_nil ?_ | refine w_cons ?_ | refine w_cb ?_ | refine w_call ?_ | refine w_tup ?_ | refine w_lst ?_
  | refine w_fld ?_ | refine w_sfld ?_ | refine w_match ?_ | refine w_case ?_ | refine w_mcons ?_ | refine w_mnil ?_ | refine w_mcap ?_ | refine w_many ?_ | refine w_myes ?_
  | refine w_sub ?_ | refine w_bm ?_ | refine w_sl ?_ | refine w_nopart ?_ | refine w_part ?_ | refine w_int ?_ | refine w_ift ?_ | refine w_iff ?_ | refine w_ifn ?_ | refine w_dget2 ?_ | refine w_star ?_ | refine w_dput ?_ | refine w_dnewK ?_ | refine w_meth ?_ | refine w_oneOf ?_ | refine w_make ?_ | refine w_lc ?_ | refine w_for ?_ | refine w_ilist ?_ | refine w_irng1 ?_ | refine w_irng2 ?_ | refine w_irng3 ?_)
local macro_rules | `(tactic| walk_at "w2") => `(tactic| first
  | ((with_reducible refine' w_var ?wh ?_); (case wh => rfl))
  | ((with_reducible refine' w_eq ?wh ?_); (case wh => rfl))
  | ((with_reducible refine' w_ne ?wh ?_); (case wh => rfl))
  | ((with_reducible refine' w_mno ?wh ?_); (case wh => decide +kernel))
  | ((with_reducible refine' w_mhit ?wh ?wl ?_); (case wh => assumption); (case wl => rfl))
  | ((with_reducible refine' w_mmiss ?wh ?wl ?_); (case wh => assumption); (case wl => simp))
  | ((with_reducible refine' w_fldA ?wh ?wc ?wn ?wl ?_); (case wh => first | assumption | exact upd_same); (case wc => assumption); (case wn => assumption); (case wl => walk_at "lk"))
  | ((with_reducible refine' w_ixl ?wh ?we ?_); (case wh => exact SqL.of (by first | assumption | exact upd_same)); (case we => rfl))
  | ((with_reducible refine' w_ixt ?wh ?we ?_); (case wh => assumption); (case we => rfl))
  | ((with_reducible refine' w_ifT ?wh ?_); (case wh => (with_reducible exact Eq.refl _)))
  | ((with_reducible refine' w_ifF ?wh ?_); (case wh => decide +kernel))
  | ((with_reducible refine' w_isiY ?wh ?wk ?_); (case wh => first | exact .int _ | exact .str _ | exact .lst (by assumption) | exact .tup (by assumption)); (case wk => decide +kernel))
  | ((with_reducible refine' w_isiN ?wh ?wk ?_); (case wh => first | exact .int _ | exact .str _ | exact .lst (by assumption) | exact .tup (by assumption)); (case wk => decide +kernel))
  | ((with_reducible refine' w_ifF ?wh ?_); (case wh => (intro z; cases z; done)))
  | ((with_reducible refine' w_setl ?wh ?we ?wl ?_); (case wh => first | assumption | exact upd_same); (case we => rfl); (case wl => rfl))
  | ((with_reducible refine' w_methA ?wh ?wl ?_); (case wh => first | assumption | exact upd_same); (case wl => walk_at "lk"))
  | ((with_reducible refine' w_sfldB ?wc ?wn ?wz ?wl ?_); (case wc => assumption); (case wn => assumption); (case wz => simp); (case wl => walk_at "pf"))
  | ((with_reducible refine' w_sfldA ?wh ?wc ?wn ?wz ?wl ?_); (case wh => assumption); (case wc => assumption); (case wn => assumption); (case wz => simp); (case wl => walk_at "pf")))
local macro_rules | `(tactic| walk_at "w") => `(tactic| repeat (first | walk_at "w1" | walk_at "w2" | (dsimp only [List.set, setAll, List.append, List.cons_append, List.nil_append])))
section
variable {K : PySem.W.Frag} {c : CA}
/-! ### pairs -/
theorem cut_take (xs : List V) {m : Int} (h : 0 ≤ m) : cutV xs none (some m) = xs.take m.toNat := by
  unfold cutV
  rw [HT.sIx_none, List.drop_zero, Nat.sub_zero]
  have e : m = ((m.toNat : Nat) : Int) := by omega
  rw [e, HT.sIx_nat, Int.toNat_natCast]
  by_cases c : m.toNat ≤ xs.length
  · rw [Nat.min_eq_left c]
  · rw [Nat.min_eq_right (by omega), List.take_of_length_le (Nat.le_refl _), List.take_of_length_le (by omega)]
def neV (x : Int) : V → Bool
  | .int i => !decide (i = x)
  | _ => false
theorem added_ne (x : Int) : ∀ l : List Int, added (neV x) id (l.map V.int) = (l.filter (fun y => decide (y ≠ x))).map V.int
  | [] => rfl
  | a :: r => by
    have ih := added_ne x r
    unfold added at ih ⊢
    rw [List.map_cons, List.filter_cons, List.filter_cons]
    by_cases e : a = x
    · rw [if_neg (by simp [neV, e]), if_neg (by simp [e]), ih]
    · rw [if_pos (by simp [neV, e]), if_pos (by simp [e]), List.map_cons, ih]
      rfl
def prF (m l : V) (d : Addr) : List (Str × V) := [("many", m), ("last", l), ("followers", .ref d)]
/-- put_behind: a new list, the dict alone is written -/
def spPut (c : CA) : Sp := fun vs H Q _ => ∃ p dx d q x m l kvs f M, vs = [.ref p, .int q, .int x] ∧ H p = some (.ins c.Pairs dx (prF (.int m) l d)) ∧ 0 ≤ m ∧ H d = some (.dK kvs) ∧ kvs.length < 100000 ∧ Fol H M (valV kvs (Sum.inl q)) f ∧ f.length ≤ 100 ∧
  ∀ H' a, H a = none → H' a = some (.lst (((x :: f.filter (fun y => decide (y ≠ x))).take m.toNat).map V.int)) → H' d = some (.dK (putK kvs (Sum.inl q) (.ref a))) → Out (Is d) H H' → Q .non H'
def t_Pairs_put_behind (K : PySem.W.Frag) : TS := tSeq (tAsg (tLc (iList K (tDGet2 (tFld K (tVar 0) "followers") (tVar 1) (tLst (tNil)))) (gName 4) (tTest (tOp (rNe) (tVar 4) (tVar 2))) (tVar 4) [4]) (gName 3))
  (sDPut (tFld K (tVar 0) "followers") (tVar 1) (tSl (rSlL K) (tLst (tCons (tVar 2) (tStar K (tVar 3) (tNil)))) (tNoPart) (tPart (tFld K (tVar 0) "many"))))
theorem pu_Pairs_put_behind (T : GF K c) {vs : List V} {H : Hp} {Q : VK} {E : XK} (h : spPut c vs H Q E) : t_Pairs_put_behind K (B Q) (start ["self", "earlier", "place", "others", "other"] vs) H := by
  obtain ⟨p, dx, d, q, x, m, l, kvs, f, M, rfl, hp, h0, hd, hl, hf, hz, k⟩ := h
  obtain ⟨cN, cS, cP, cB, nN1, nS1, nS2, nS3, nS4, nP1, nP2, nP3, nB1, nB2⟩ := id T
  unfold t_Pairs_put_behind
  unfold prF at *
  walk_at "w"
  refine ⟨d, rfl, .inl ⟨kvs, .inl hd⟩, ?_⟩
  walk_at "w"
  refine ⟨by decide, fun z hz0 => ?_⟩
  have e1 : Same H (upd H z (.lst [])) := same_upd hz0
  have hd1 := e1 _ _ hd
  refine ⟨_, DGet.k (k := Sum.inl q) hd1, ?_⟩
  obtain ⟨a0, ea0, ha0⟩ : ∃ a0, (valV kvs (Sum.inl q)).getD (.ref z) = .ref a0 ∧ upd H z (.lst []) a0 = some (.lst (f.map V.int)) := by
    cases e : valV kvs (Sum.inl q) with
    | none =>
      rw [e] at hf
      have hf : f = [] := hf
      rw [hf]
      exact ⟨z, rfl, upd_same⟩
    | some v =>
      rw [e] at hf
      obtain ⟨a, ea, ha, _⟩ := hf
      exact ⟨a, ea, e1 _ _ ha⟩
  rw [ea0]
  generalize upd H z (.lst []) = H1 at e1 hd1 ha0
  refine w_lcl (neV x) id (SqL.of ha0) (small_lt (by rw [List.length_map]; omega)) (fun _ => rfl) (fun y hy H' s R r => ?_) (fun y hy cy H' s R r => ?_) (fun o H2 ho e2 ho2 => ?_)
  · obtain ⟨i, _, rfl⟩ := List.mem_map.mp hy
    walk_at "w"
    have e : decide (V.int i = V.int x) = decide (i = x) := by simp
    rw [e]
    exact r _ (Same.refl _)
  · walk_at "w"
    exact r _ (Same.refl _)
  · rw [added_ne] at ho2
    have hp2 := e2 _ _ (e1 _ _ hp)
    have hd2 := e2 _ _ hd1
    walk_at "w"
    refine ⟨o, _, rfl, .inr (SqL.of ho2), ?_⟩
    walk_at "w"
    refine ⟨small_le ?_, w_new fun p1 H3 hp1 e3 ho3 => ?_⟩
    · simp only [List.length_cons, List.append_nil, List.length_map]
      have := List.length_filter_le (fun y => decide (y ≠ x)) f
      omega
    have hp3 := e3 _ _ hp2
    have hd3 := e3 _ _ hd2
    walk_at "w"
    refine w_sll (SqL.of ho3) (w_new fun p2 H4 hp4 e4 ho4 => ?_)
    have hp4' := e4 _ _ hp3
    have hd4 := e4 _ _ hd3
    walk_at "w"
    refine ⟨d, _, rfl, DPut.k (k := Sum.inl q) hd4 (small_lt (by omega)), ?_⟩
    have np2 : p2 ≠ d := ne_of ho4 hd4 (fun z => nomatch z)
    have fr : H p2 = none := e1.free (e2.free (e3.free hp4))
    refine k _ p2 fr ?_ upd_same ?_
    · rw [upd_ne np2, ho4, cut_take _ h0, List.append_nil, List.map_take, List.map_cons]
    · intro b o hb nb
      rw [upd_ne nb]
      exact e4 _ _ (e3 _ _ (e2 _ _ (e1 _ _ hb)))
def t_Pairs_guess (K : PySem.W.Frag) (c_Pairs : Addr) (sp_Pairs_put_behind : Sp) : TS := tSeq (tIfS (tB (tNotN (tFld K (tVar 0) "last"))) (tDrop (tMeth c_Pairs "put_behind" sp_Pairs_put_behind [] E0 (tVar 0) (tCons (tFld K (tVar 0) "last") (tCons (tVar 1) (tNil))))) (tNext))
  (tSeq (sFld K (tVar 0) (tVar 1) "last")
  (tRet (tCB (rListOf K) (tCons (tDGet2 (tFld K (tVar 0) "followers") (tVar 1) (tLst (tNil))) (tNil)))))
theorem pu_Pairs_guess (T : GF K c) {vs : List V} {H : Hp} {Q : VK} {E : XK} (h : ∃ x m : Int, ∃ l : Option Int, ∃ f : Int → List Int, ∃ p : Addr, ∃ M : Addr → Prop, ∃ N : Nat, vs = [.ref p, .int x] ∧ GAt c H N (.pairs m l f) p M ∧ Dom M H ∧ Good (.pairs m l f) ∧ N < 100000 ∧
   ∀ H' q M', H q = none → H' q = some (.lst ((folOf l f m x x).map V.int)) → ¬ M' q → GAt c H' (N + 1) (.pairs m (some x) (folOf l f m x)) p M' → Dom M' H' → (∀ a, M a → M' a) → (∀ a, M' a → M a ∨ H a = none) → Out M H H' → Q (.ref q) H') :
    t_Pairs_guess K c.Pairs (spPut c) (B Q) (start ["self", "place"] vs) H := by
  obtain ⟨x, m, l, f, p, M, N, rfl, ⟨dx, d, kvs, hp, hm, hd, md, hl, hf⟩, dom, ⟨h0, h1, h2⟩, hN, k⟩ := h
  obtain ⟨cN, cS, cP, cB, nN1, nS1, nS2, nS3, nS4, nP1, nP2, nP3, nB1, nB2⟩ := id T
  have npd : p ≠ d := ne_of hp hd (fun z => nomatch z)
  -- behind the dict's change: self.last = place; the copy
  have fin : ∀ (Hx : Hp) (M' : Addr → Prop) (kvs' : List (Key × V)), M' p → M' d → Hx p = some (.ins c.Pairs dx [("many", .int m), ("last", optV l), ("followers", .ref d)]) → Hx d = some (.dK kvs') → kvs'.length ≤ N + 1 →
      (∀ q, Fol Hx M' (valV kvs' (Sum.inl q)) (folOf l f m x q)) → Dom M' Hx → (∀ a, M a → M' a) → (∀ a, M' a → M a ∨ H a = none) → Out M H Hx → (∀ a, Hx a = none → H a = none) →
      tSeq (sFld K (tVar 0) (tVar 1) "last") (tRet (tCB (rListOf K) (tCons (tDGet2 (tFld K (tVar 0) "followers") (tVar 1) (tLst (tNil))) (tNil)))) (B Q) [some (.ref p), some (.int x)] Hx := by
    intro Hx M' kvs' mp md' hxp hxd hl' hf' dom' hMM hM ho hfr
    walk_at "w"
    have hd1 : upd Hx p (.ins c.Pairs dx [("many", V.int m), ("last", V.int x), ("followers", V.ref d)]) d = some (.dK kvs') := by rw [upd_ne npd.symm]; exact hxd
    refine ⟨d, rfl, .inl ⟨kvs', .inl hd1⟩, ?_⟩
    walk_at "w"
    refine ⟨by decide, w_new fun z H2 hz e2 hz2 => ?_⟩
    have hp2 : H2 p = some (.ins c.Pairs dx [("many", V.int m), ("last", V.int x), ("followers", V.ref d)]) := e2 _ _ upd_same
    have hd2 := e2 _ _ hd1
    refine ⟨_, DGet.k (k := Sum.inl x) hd2, ?_⟩
    have st2 : ∀ b o, b ≠ p → Hx b = some o → H2 b = some o := fun b o nb e => e2 _ _ (by rw [upd_ne nb]; exact e)
    obtain ⟨a0, ea0, ha0⟩ : ∃ a0, (valV kvs' (Sum.inl x)).getD (.ref z) = .ref a0 ∧ H2 a0 = some (.lst ((folOf l f m x x).map V.int)) := by
      have hfx := hf' x
      cases e : valV kvs' (Sum.inl x) with
      | none =>
        rw [e] at hfx
        have hfx : folOf l f m x x = [] := hfx
        rw [hfx]
        exact ⟨z, rfl, hz2⟩
      | some v =>
        rw [e] at hfx
        obtain ⟨a, ea, ha, _⟩ := hfx
        exact ⟨a, ea, st2 _ _ (ne_of ha hxp (fun z => nomatch z)) ha⟩
    rw [ea0]
    walk_at "w"
    refine w_listof (SqL.of ha0) (w_new fun q H3 hq e3 hq3 => ?_)
    have fq : Hx q = none := by
      have h2 := e2.free hq
      by_cases hqp : q = p
      · rw [hqp, upd_same] at h2; cases h2
      · rw [upd_ne hqp] at h2; exact h2
    have st3 : ∀ b o, b ≠ p → Hx b = some o → H3 b = some o := fun b o nb e => e3 _ _ (st2 _ _ nb e)
    refine k H3 q M' (hfr q fq) hq3 (not_dom dom' fq) ⟨dx, d, kvs', e3 _ _ hp2, mp, e3 _ _ hd2, md', hl', fun y => ?_⟩ (fun a z => ?_) hMM hM (fun b o hb nb => ?_)
    · have hy := hf' y
      revert hy
      cases valV kvs' (Sum.inl y) with
      | none => exact id
      | some v =>
        rintro ⟨a, ea, ha, ma⟩
        exact ⟨a, ea, st3 _ _ (ne_of ha hxp (fun z => nomatch z)) ha, ma⟩
    · obtain ⟨o, ho⟩ := dom' a z
      by_cases hap : a = p
      · exact ⟨_, by rw [hap]; exact e3 _ _ hp2⟩
      · exact ⟨o, st3 _ _ hap ho⟩
    · exact st3 _ _ (fun z => nb (z ▸ hm)) (ho b o hb nb)
  unfold t_Pairs_guess
  walk_at "w"
  rw [optV_non]
  cases l with
  | none =>
    refine w_ift ?_
    refine w_next ?_
    exact fin H M kvs hm md hp hd (by omega) hf dom (fun _ z => z) (fun a z => .inl z) Out.refl (fun _ z => z)
  | some y =>
    refine w_iff ?_
    walk_at "w"
    show spPut c [.ref p, .int y, .int x] H _ _
    refine ⟨p, dx, d, y, x, m, .int y, kvs, f y, M, rfl, hp, h0, hd, by omega, hf y, h2 y, fun H' a ha ha' hd' e => ?_⟩
    have nap : a ≠ p := fun z => by rw [z, hp] at ha; cases ha
    have nad : a ≠ d := fun z => by rw [z, hd] at ha; cases ha
    have hp' : H' p = some (.ins c.Pairs dx [("many", .int m), ("last", .int y), ("followers", .ref d)]) := e _ _ hp npd
    refine fin H' (fun b => M b ∨ b = a) _ (.inl hm) (.inl md) hp' hd' (by have := length_putK kvs (Sum.inl y) (V.ref a); omega) (fun q => ?_) (fun b z => ?_) (fun _ z => .inl z) (fun b z => ?_) (fun b o hb nb => ?_) (fun b hb => ?_)
    · rw [valV_put]
      show Fol H' _ _ (if q = y then behind f m y x else f q)
      by_cases hqy : q = y
      · subst hqy
        rw [if_pos rfl, if_pos rfl]
        exact ⟨a, rfl, ha', .inr rfl⟩
      · rw [if_neg (fun z => hqy (Sum.inl.inj z)), if_neg hqy]
        have hfq := hf q
        revert hfq
        cases valV kvs (Sum.inl q) with
        | none => exact id
        | some v =>
          rintro ⟨b, eb, hb, mb⟩
          exact ⟨b, eb, e _ _ hb (ne_of hb hd (fun z => nomatch z)), .inl mb⟩
    · rcases z with z | z
      · obtain ⟨o, ho⟩ := dom b z
        by_cases hbd : b = d
        · exact ⟨_, by rw [hbd]; exact hd'⟩
        · exact ⟨o, e _ _ ho hbd⟩
      · exact ⟨_, by rw [z]; exact ha'⟩
    · rcases z with z | z
      · exact .inl z
      · exact .inr (by rw [z]; exact ha)
    · exact e _ _ hb (fun z => nb (z ▸ md))
    · cases z : H b with
      | none => rfl
      | some o =>
        by_cases hbd : b = d
        · rw [hbd, hd'] at hb; cases hb
        · rw [e _ _ z hbd] at hb; cases hb
end
end SwD
set_option Elab.async false
set_option linter.all false
set_option maxRecDepth 100000
set_option maxHeartbeats 4000000
namespace SwD
open PySem PySem.Spec PyProof.Rows L2 SwX StX Sw
local macro_rules | `(tactic| walk_at "lk") => `(tactic| first | exact lk_at | exact lk_no | ((refine' lk_by (by decide +kernel) ?wq); (case wq => walk_at "lk")))
local macro_rules | `(tactic| walk_at "pf") => `(tactic| first | exact pf_at | exact pf_nil | ((refine' pf_by (by decide +kernel) ?wq); (case wq => walk_at "pf")))
local macro_rules | `(tactic| walk_at "w1") => `(tactic| with_reducible first
  | refine w_seq ?_ | refine w_asg ?_ | refine w_name ?_ | refine w_ret ?_ | refine w_retN ?_ | refine w_drop ?_ | refine w_next ?_ | refine w_if ?_ | refine w_ifE ?_ | refine w_test ?_ | refine w_B ?_ | refine w_bl ?_
  | refine w_not ?_ | refine w_and ?_ | refine w_or ?_ | refine w_andV ?_ | refine w_orV ?_ | refine w_notV ?_ | refine w_isN ?_ | refine w_notN ?_ | refine w_yes ?_
  | refine w_c ?_ | refine w_op ?_ | refine w_un ?_ | refine w_i0 ?_ | refine w_neg ?_ | refine w_nil ?_ | refine w_cons ?_ | refine w_cb ?_ | refine w_call ?_ | refine w_tup ?_ | refine w_lst ?_
  | refine w_fld ?_ | refine w_sfld ?_ | refine w_match ?_ | refine w_case ?_ | refine w_mcons ?_ | refine w_mnil ?_ | refine w_mcap ?_ | refine w_many ?_ | refine w_myes ?_
  | refine w_sub ?_ | refine w_bm ?_ | refine w_sl ?_ | refine w_nopart ?_ | refine w_part ?_ | refine w_int ?_ | refine w_ift ?_ | refine w_iff ?_ | refine w_ifn ?_ | refine w_dget2 ?_ | refine w_star ?_ | refine w_dput ?_ | refine w_dnewK ?_ | refine w_meth ?_ | refine w_oneOf ?_ | refine w_make ?_ | refine w_lc ?_ | refine w_for ?_ | refine w_ilist ?_ | refine w_irng1 ?_ | refine w_irng2 ?_ | refine w_irng3 ?_)
local macro_rules | `(tactic| walk_at "w2") => `(tactic| first
  | ((with_reducible refine' w_var ?wh ?_); (case wh => rfl))
  | ((with_reducible refine' w_eq ?wh ?_); (case wh => rfl))
  | ((with_reducible refine' w_ne ?wh ?_); (case wh => rfl))
  | ((with_reducible refine' w_mno ?wh ?_); (case wh => decide +kernel))
  | ((with_reducible refine' w_mhit ?wh ?wl ?_); (case wh => assumption); (case wl => rfl))
  | ((with_reducible refine' w_mmiss ?wh ?wl ?_); (case wh => assumption); (case wl => simp))
  | ((with_reducible refine' w_fldA ?wh ?wc ?wn ?wl ?_); (case wh => first | assumption | exact upd_same); (case wc => assumption); (case wn => assumption); (case wl => walk_at "lk"))
  | ((with_reducible refine' w_ixl ?wh ?we ?_); (case wh => exact SqL.of (by first | assumption | exact upd_same)); (case we => rfl))
  | ((with_reducible refine' w_ixt ?wh ?we ?_); (case wh => assumption); (case we => rfl))
  | ((with_reducible refine' w_ifT ?wh ?_); (case wh => (with_reducible exact Eq.refl _)))
  | ((with_reducible refine' w_ifF ?wh ?_); (case wh => decide +kernel))
  | ((with_reducible refine' w_isiY ?wh ?wk ?_); (case wh => first | exact .int _ | exact .str _ | exact .lst (by assumption) | exact .tup (by assumption)); (case wk => decide +kernel))
  | ((with_reducible refine' w_isiN ?wh ?wk ?_); (case wh => first | exact .int _ | exact .str _ | exact .lst (by assumption) | exact .tup (by assumption)); (case wk => decide +kernel))
  | ((with_reducible refine' w_ifF ?wh ?_); (case wh => (intro z; cases z; done)))
  | ((with_reducible refine' w_setl ?wh ?we ?wl ?_); (case wh => first | assumption | exact upd_same); (case we => rfl); (case wl => rfl))
  | ((with_reducible refine' w_methA ?wh ?wl ?_); (case wh => first | assumption | exact upd_same); (case wl => walk_at "lk"))
  | ((with_reducible refine' w_sfldB ?wc ?wn ?wz ?wl ?_); (case wc => assumption); (case wn => assumption); (case wz => simp); (case wl => walk_at "pf"))
  | ((with_reducible refine' w_sfldA ?wh ?wc ?wn ?wz ?wl ?_); (case wh => assumption); (case wc => assumption); (case wn => assumption); (case wz => simp); (case wl => walk_at "pf")))
local macro_rules | `(tactic| walk_at "w") => `(tactic| repeat (first | walk_at "w1" | walk_at "w2" | (dsimp only [List.set, setAll, List.append, List.cons_append, List.nil_append])))
inductive Lab where
  | silent | neigh | strid | pairs | both
def lab : S → Lab
  | .silent => .silent
  | .neigh _ => .neigh
  | .strid _ _ _ _ => .strid
  | .pairs _ _ _ => .pairs
  | .both _ _ => .both
def CA.at (c : CA) : Lab → Addr
  | .silent => c.Silent
  | .neigh => c.Neighbours
  | .strid => c.Strides
  | .pairs => c.Pairs
  | .both => c.Both
/-- guess of an object of one class -/
def spGuessL (c : CA) (n : Nat) (i : Lab) : Sp := fun vs H Q _ => ∃ p x s M N, lab s = i ∧ vs = [.ref p, .int x] ∧ GAt c H N s p M ∧ Dom M H ∧ deep s ≤ n ∧ Good s ∧ N < 100000 ∧
  ∀ H' q M', H q = none → H' q = some (.lst ((s.says x).map V.int)) → ¬ M' q → GAt c H' (N + 1) (s.next x) p M' → Dom M' H' → (∀ a, M a → M' a) → (∀ a, M' a → M a ∨ H a = none) → Out M H H' → Q (.ref q) H'
theorem gat_ins {c : CA} {H : Hp} {N : Nat} : ∀ {s : S} {p : Addr} {M : Addr → Prop}, GAt c H N s p M → ∃ dx fs, H p = some (.ins (c.at (lab s)) dx fs) ∧ fs.lookup ("guess" : Str) = none
  | .silent, _, _, ⟨dx, h, _⟩ => ⟨dx, _, h, rfl⟩
  | .neigh _, _, _, ⟨dx, h, _⟩ => ⟨dx, _, h, by walk_at "lk"⟩
  | .strid _ _ _ _, _, _, ⟨dx, h, _⟩ => ⟨dx, _, h, by walk_at "lk"⟩
  | .pairs _ _ _, _, _, ⟨dx, _, _, h, _⟩ => ⟨dx, _, h, by walk_at "lk"⟩
  | .both _ _, _, _, ⟨dx, _, _, _, _, h, _⟩ => ⟨dx, _, h, by walk_at "lk"⟩
def notIn (l : List Int) : V → Bool
  | .int i => !decide (i ∈ l)
  | _ => false
theorem added_notIn (l : List Int) : ∀ ys : List Int, added (notIn l) id (ys.map V.int) = (ys.filter (fun v => decide (v ∉ l))).map V.int
  | [] => rfl
  | a :: r => by
    have ih := added_notIn l r
    unfold added at ih ⊢
    rw [List.map_cons, List.filter_cons, List.filter_cons]
    by_cases e : a ∈ l
    · rw [if_neg (by simp [notIn, e]), if_neg (by simp [e]), ih]
    · rw [if_pos (by simp [notIn, e]), if_pos (by simp [e]), List.map_cons, ih]
      rfl
section
variable {K : PySem.W.Frag} {c : CA}
def t_Both_guess (K : PySem.W.Frag) (R_guess : Lab → Addr) (sp_guess : Lab → Sp) : TS := tSeq (tAsg (tOneOf R_guess "guess" sp_guess E0 (tFld K (tVar 0) "one") (tCons (tVar 1) (tNil))) (gName 2))
  (tSeq (tAsg (tOneOf R_guess "guess" sp_guess E0 (tFld K (tVar 0) "other") (tCons (tVar 1) (tNil))) (gName 3))
  (tRet (tOp (rCat) (tVar 2) (tLc (iList K (tVar 3)) (gName 4) (tTest (tOp (rIn K true) (tVar 4) (tVar 2))) (tVar 4) [4]))))
theorem pu_Both_guess (T : GF K c) {vs : List V} {H : Hp} {Q : VK} {E : XK} {n : Nat} (hn : n ≤ 10) (h : spGuessL c (n + 1) .both vs H Q E) : t_Both_guess K c.at (spGuessL c n) (B Q) (start ["self", "place", "first", "second", "guessed"] vs) H := by
  obtain ⟨p, x, s, M, N, el, rfl, ga, dom, hdp, hg, hN, k⟩ := h
  obtain ⟨a, b, rfl⟩ : ∃ a b, s = .both a b := by
    cases s with
    | both a b => exact ⟨a, b, rfl⟩
    | _ => cases el
  obtain ⟨dx, pa, pb, A, Bs, hp, mp, gA, gB, iA, iB, dj, nA, nB⟩ := ga
  obtain ⟨cN, cS, cP, cB, nN1, nS1, nS2, nS3, nS4, nP1, nP2, nP3, nB1, nB2⟩ := id T
  have hdp : max (deep a) (deep b) + 1 ≤ n + 1 := hdp
  have dA : Dom A H := fun y z => dom y (iA y z)
  have dB : Dom Bs H := fun y z => dom y (iB y z)
  unfold t_Both_guess
  walk_at "w"
  obtain ⟨dxa, fa, ha, la⟩ := gat_ins gA
  refine ⟨pa, lab a, dxa, fa, rfl, ha, la, ?_⟩
  walk_at "w"
  refine ⟨pa, x, a, A, N, rfl, rfl, gA, dA, by omega, hg.1, hN, fun H1 q1 A1 fq1 hq1 nq1 gA1 dA1 tA1 sA1 o1 => ?_⟩
  have hp1 := o1 _ _ hp nA
  have gB1 : GAt c H1 N b pb Bs := gat_keep (fun y z => by obtain ⟨o, ho⟩ := dB y z; rw [ho]; exact o1 _ _ ho (fun w => dj y w z)) gB
  have dB1 : Dom Bs H1 := fun y z => by obtain ⟨o, ho⟩ := dB y z; exact ⟨o, o1 _ _ ho (fun w => dj y w z)⟩
  have nA1 : ∀ y, A1 y → ¬ Bs y := fun y z w => by
    rcases sA1 y z with q | q
    · exact dj y q w
    · obtain ⟨o, ho⟩ := dB y w
      rw [q] at ho
      cases ho
  have nq1B : ¬ Bs q1 := not_dom dB fq1
  walk_at "w"
  obtain ⟨dxb, fb, hb, lb⟩ := gat_ins gB1
  refine ⟨pb, lab b, dxb, fb, rfl, hb, lb, ?_⟩
  walk_at "w"
  refine ⟨pb, x, b, Bs, N, rfl, rfl, gB1, dB1, by omega, hg.2, hN, fun H2 q2 B2 fq2 hq2 nq2 gB2 dB2 tB2 sB2 o2 => ?_⟩
  have hp2 := o2 _ _ hp1 nB
  have hq1' := o2 _ _ hq1 nq1B
  have gA2 : GAt c H2 (N + 1) (a.next x) pa A1 := gat_keep (fun y z => by obtain ⟨o, ho⟩ := dA1 y z; rw [ho]; exact o2 _ _ ho (nA1 y z)) gA1
  have dA2 : Dom A1 H2 := fun y z => by obtain ⟨o, ho⟩ := dA1 y z; exact ⟨o, o2 _ _ ho (nA1 y z)⟩
  walk_at "w"
  refine w_lcl (notIn (a.says x)) id (SqL.of hq2) (small_lt ?_) (fun _ => rfl) (fun y hy H' s R r => ?_) (fun y hy cy H' s R r => ?_) (fun o H3 ho e3 ho3 => ?_)
  · rw [List.length_map]
    have h1 := says_le x hg.2
    have h2 : 2 ^ deep b ≤ 2 ^ 11 := Nat.pow_le_pow_right (by decide) (by omega)
    omega
  · obtain ⟨i, _, rfl⟩ := List.mem_map.mp hy
    walk_at "w"
    refine w_inl (SqL.of (s _ _ hq1')) ?_
    walk_at "w"
    exact r _ (Same.refl _)
  · walk_at "w"
    exact r _ (Same.refl _)
  · rw [added_notIn] at ho3
    refine w_cat (e3 _ _ hq1') ho3 (small_le ?_) (w_new fun q3 H4 hq3 e4 h4 => ?_)
    · rw [List.length_map, List.length_map]
      have h1 := says_le x hg.1
      have h2 := says_le x hg.2
      have h3 : 2 ^ deep a ≤ 2 ^ 11 := Nat.pow_le_pow_right (by decide) (by omega)
      have h4 : 2 ^ deep b ≤ 2 ^ 11 := Nat.pow_le_pow_right (by decide) (by omega)
      have h5 := List.length_filter_le (fun v => decide (v ∉ a.says x)) (b.says x)
      omega
    rw [← List.map_append] at h4
    have e24 : Same H2 H4 := e3.trans e4
    have fr2 : H2 q3 = none := e3.free hq3
    have fr1 : H1 q3 = none := by
      cases z : H1 q3 with
      | none => rfl
      | some o =>
        by_cases w : Bs q3
        · obtain ⟨o', ho'⟩ := dB2 q3 (tB2 q3 w)
          rw [fr2] at ho'
          cases ho'
        · rw [o2 _ _ z w] at fr2
          cases fr2
    have fr0 : H q3 = none := by
      cases z : H q3 with
      | none => rfl
      | some o =>
        by_cases w : A q3
        · obtain ⟨o', ho'⟩ := dA1 q3 (tA1 q3 w)
          rw [fr1] at ho'
          cases ho'
        · rw [o1 _ _ z w] at fr1
          cases fr1
    have nB2A : ∀ y, A1 y → ¬ B2 y := fun y z w => by
      rcases sB2 y w with q | q
      · exact nA1 y z q
      · obtain ⟨o', ho'⟩ := dA1 y z
        rw [q] at ho'
        cases ho'
    have out02 : Out M H H2 := fun b o hb nb => o2 _ _ (o1 _ _ hb (fun z => nb (iA b z))) (fun z => nb (iB b z))
    have dM2 : ∀ y, M y → ∃ o, H2 y = some o := fun y z => by
      obtain ⟨o, ho⟩ := dom y z
      by_cases wB : Bs y
      · exact dB2 y (tB2 y wB)
      · by_cases wA : A y
        · obtain ⟨o', ho'⟩ := dA1 y (tA1 y wA)
          exact ⟨o', o2 _ _ ho' wB⟩
        · exact ⟨o, o2 _ _ (o1 _ _ ho wA) wB⟩
    refine k H4 q3 (fun y => M y ∨ A1 y ∨ B2 y) fr0 h4 ?_ ⟨dx, pa, pb, A1, B2, e24 _ _ hp2, .inl mp, gat_same dA2 e24 gA2, gat_same dB2 e24 gB2, fun y z => .inr (.inl z), fun y z => .inr (.inr z), nB2A, ?_, ?_⟩ ?_ (fun _ z => .inl z) ?_ (fun b o hb nb => e24 _ _ (out02 b o hb nb))
    · rintro (z | z | z)
      · exact not_dom dom fr0 z
      · exact not_dom dA1 fr1 z
      · exact not_dom dB2 fr2 z
    · intro z
      rcases sA1 p z with q | q
      · exact nA q
      · rw [hp] at q
        cases q
    · intro z
      rcases sB2 p z with q | q
      · exact nB q
      · rw [hp1] at q
        cases q
    · rintro y (z | z | z)
      · obtain ⟨o', ho'⟩ := dM2 y z
        exact ⟨o', e24 _ _ ho'⟩
      · obtain ⟨o', ho'⟩ := dA2 y z
        exact ⟨o', e24 _ _ ho'⟩
      · obtain ⟨o', ho'⟩ := dB2 y z
        exact ⟨o', e24 _ _ ho'⟩
    · rintro y (z | z | z)
      · exact .inl z
      · rcases sA1 y z with q | q
        · exact .inl (iA y q)
        · exact .inr q
      · rcases sB2 y z with q | q
        · exact .inl (iB y q)
        · by_cases wA : A y
          · exact .inl (iA y wA)
          · refine .inr ?_
            cases w : H y with
            | none => rfl
            | some o =>
              rw [o1 _ _ w wA] at q
              cases q
end
end SwD
set_option Elab.async false
set_option linter.all false
set_option maxRecDepth 100000
set_option maxHeartbeats 4000000
namespace SwD
open PySem PySem.Spec PyProof.Rows L2 SwX StX Sw
local macro_rules | `(tactic| walk_at "lk") => `(tactic| first | exact lk_at | exact lk_no | ((refine' lk_by (by decide +kernel) ?wq); (case wq => walk_at "lk")))
local macro_rules | `(tactic| walk_at "pf") => `(tactic| first | exact pf_at | exact pf_nil | ((refine' pf_by (by decide +kernel) ?wq); (case wq => walk_at "pf")))
local macro_rules | `(tactic| walk_at "w1") => `(tactic| with_reducible first
  | refine w_seq ?_ | refine w_asg ?_ | refine w_name ?_ | refine w_ret ?_ | refine w_retN ?_ | refine w_drop ?_ | refine w_next ?_ | refine w_if ?_ | refine w_ifE ?_ | refine w_test ?_ | refine w_B ?_ | refine w_bl ?_
  | refine w_not ?_ | refine w_and ?_ | refine w_or ?_ | refine w_andV ?_ | refine w_orV ?_ | refine w_notV ?_ | refine w_isN ?_ | refine w_notN ?_ | refine w_yes ?_
  | refine w_c ?_ | refine w_op ?_ | refine w_un ?_ | refine w_i0 ?_ | refine w_neg ?_ | refine w_nil ?_ | refine w_cons ?_ | refine w_cb ?_ | refine w_call ?_ | refine w_tup ?_ | refine w_lst ?_
  | refine w_fld ?_ | refine w_sfld ?_ | refine w_match ?_ | refine w_case ?_ | refine w_mcons ?_ | refine w_mnil ?_ | refine w_mcap ?_ | refine w_many ?_ | refine w_myes ?_
  | refine w_sub ?_ | refine w_bm ?_ | refine w_sl ?_ | refine w_nopart ?_ | refine w_part ?_ | refine w_int ?_ | refine w_ift ?_ | refine w_iff ?_ | refine w_ifn ?_ | refine w_dget2 ?_ | refine w_star ?_ | refine w_dput ?_ | refine w_dnewK ?_ | refine w_meth ?_ | refine w_oneOf ?_ | refine w_make ?_ | refine w_lc ?_ | refine w_for ?_ | refine w_ilist ?_ | refine w_irng1 ?_ | refine w_irng2 ?_ | refine w_irng3 ?_)
local macro_rules | `(tactic| walk_at "w2") => `(tactic| first
  | ((with_reducible refine' w_var ?wh ?_); (case wh => rfl))
  | ((with_reducible refine' w_eq ?wh ?_); (case wh => rfl))
  | ((with_reducible refine' w_ne ?wh ?_); (case wh => rfl))
  | ((with_reducible refine' w_mno ?wh ?_); (case wh => decide +kernel))
  | ((with_reducible refine' w_mhit ?wh ?wl ?_); (case wh => assumption); (case wl => rfl))
  | ((with_reducible refine' w_mmiss ?wh ?wl ?_); (case wh => assumption); (case wl => simp))
  | ((with_reducible refine' w_fldA ?wh ?wc ?wn ?wl ?_); (case wh => first | assumption | exact upd_same); (case wc => assumption); (case wn => assumption); (case wl => walk_at "lk"))
  | ((with_reducible refine' w_ixl ?wh ?we ?_); (case wh => exact SqL.of (by first | assumption | exact upd_same)); (case we => rfl))
  | ((with_reducible refine' w_ixt ?wh ?we ?_); (case wh => assumption); (case we => rfl))
  | ((with_reducible refine' w_ifT ?wh ?_); (case wh => (with_reducible exact Eq.refl _)))
  | ((with_reducible refine' w_ifF ?wh ?_); (case wh => decide +kernel))
  | ((with_reducible refine' w_isiY ?wh ?wk ?_); (case wh => first | exact .int _ | exact .str _ | exact .lst (by assumption) | exact .tup (by assumption)); (case wk => decide +kernel))
  | ((with_reducible refine' w_isiN ?wh ?wk ?_); (case wh => first | exact .int _ | exact .str _ | exact .lst (by assumption) | exact .tup (by assumption)); (case wk => decide +kernel))
  | ((with_reducible refine' w_ifF ?wh ?_); (case wh => (intro z; cases z; done)))
  | ((with_reducible refine' w_setl ?wh ?we ?wl ?_); (case wh => first | assumption | exact upd_same); (case we => rfl); (case wl => rfl))
  | ((with_reducible refine' w_methA ?wh ?wl ?_); (case wh => first | assumption | exact upd_same); (case wl => walk_at "lk"))
  | ((with_reducible refine' w_sfldB ?wc ?wn ?wz ?wl ?_); (case wc => assumption); (case wn => assumption); (case wz => simp); (case wl => walk_at "pf"))
  | ((with_reducible refine' w_sfldA ?wh ?wc ?wn ?wz ?wl ?_); (case wh => assumption); (case wc => assumption); (case wn => assumption); (case wz => simp); (case wl => walk_at "pf")))
local macro_rules | `(tactic| walk_at "w") => `(tactic| repeat (first | walk_at "w1" | walk_at "w2" | (dsimp only [List.set, setAll, List.append, List.cons_append, List.nil_append])))
/-! ### a guesser's tuple -/
def GTup (H : Hp) : G → Addr → Prop
  | .non, a => H a = some (.tup [.str "none"])
  | .next n, a => H a = some (.tup [.str "next", .int n])
  | .stride n, a => H a = some (.tup [.str "stride", .int n])
  | .pairs n, a => H a = some (.tup [.str "pairs", .int n])
  | .both x y, a => ∃ p q, H a = some (.tup [.str "both", .ref p, .ref q]) ∧ GTup H x p ∧ GTup H y q
theorem gtup_at {H : Hp} : ∀ {g : G} {a : Addr}, GTup H g a → ∃ xs, H a = some (.tup xs)
  | .non, _, h => ⟨_, h⟩
  | .next _, _, h => ⟨_, h⟩
  | .stride _, _, h => ⟨_, h⟩
  | .pairs _, _, h => ⟨_, h⟩
  | .both _ _, _, ⟨_, _, h, _⟩ => ⟨_, h⟩
theorem gtup_keep {H H' : Hp} (k : ∀ a xs, H a = some (.tup xs) → H' a = some (.tup xs)) : ∀ {g : G} {a : Addr}, GTup H g a → GTup H' g a
  | .non, _, h => k _ _ h
  | .next _, _, h => k _ _ h
  | .stride _, _, h => k _ _ h
  | .pairs _, _, h => k _ _ h
  | .both _ _, _, ⟨p, q, h, h1, h2⟩ => ⟨p, q, k _ _ h, gtup_keep k h1, gtup_keep k h2⟩
theorem gtup_same {H H' : Hp} (e : Same H H') {g : G} {a : Addr} (h : GTup H g a) : GTup H' g a := gtup_keep (fun _ _ z => e _ _ z) h
section
variable {K : PySem.W.Frag} {c : CA}
/-! ### is it a guesser -/
def spIsG (n : Nat) : Sp := fun vs H Q _ => ∃ a d g, vs = [.ref a, .int d] ∧ GTup H g a ∧ g.ok ∧ (g.depth : Int) + d ≤ 3 ∧ g.depth < n ∧ ∀ H', Same H H' → Q (.bl true) H'
def t_is_guesser (K : PySem.W.Frag) (sp_is_guesser : Sp) : TS := tSeq (tIfS (tNot (tB (tCB (rIsi K) (tCons (tVar 0) (tCons (tC (.ty "tuple")) (tNil)))))) (tRet (tC (.bl false))) (tNext))
  (tMatch (tVar 0) (csCons (mSeq K 1 (msCons (mVal (.str "none")) (msNil))) [] (tRet (tC (.bl true)))
    (csCons (mSeq K 2 (msCons (mVal (.str "next")) (msCons (mCap) (msNil)))) [2] (tRet (tOp (rIn K false) (tVar 2) (tTup (tCons (tC (.int 1)) (tCons (tC (.int 2)) (tCons (tC (.int 3)) (tNil)))))))
    (csCons (mSeq K 2 (msCons (mVal (.str "stride")) (msCons (mCap) (msNil)))) [3] (tRet (tOp (rIn K false) (tVar 3) (tTup (tCons (tC (.int 1)) (tCons (tC (.int 2)) (tCons (tC (.int 3)) (tNil)))))))
    (csCons (mSeq K 2 (msCons (mVal (.str "pairs")) (msCons (mCap) (msNil)))) [2] (tRet (tOp (rIn K false) (tVar 2) (tTup (tCons (tC (.int 1)) (tCons (tC (.int 2)) (tNil))))))
    (csCons (mSeq K 3 (msCons (mVal (.str "both")) (msCons (mCap) (msCons (mCap) (msNil))))) [4, 5] (tRet (tAndV (tOp (rLtI) (tVar 1) (tC (.int 3))) (tAndV (tCall sp_is_guesser [] E0 (tCons (tVar 4) (tCons (tOp (rAddI) (tVar 1) (tC (.int 1))) (tNil)))) (tCall sp_is_guesser [] E0 (tCons (tVar 5) (tCons (tOp (rAddI) (tVar 1) (tC (.int 1))) (tNil)))))))
    (csCons (mAny) [] (tRet (tC (.bl false)))
    (csNil))))))))
theorem pu_is_guesser {vs : List V} {H : Hp} {Q : VK} {E : XK} {n : Nat} (h : spIsG (n + 1) vs H Q E) : t_is_guesser K (spIsG n) (B Q) (start ["guesser", "boths", "many", "times", "one", "other"] vs) H := by
  obtain ⟨a, d, g, rfl, hg, ok, hd, hn, k⟩ := h
  obtain ⟨xs, hx⟩ := gtup_at hg
  unfold t_is_guesser
  walk_at "w"
  cases g with
  | non =>
    have hs : SqT K H a [.str "none"] := .of hg
    walk_at "w"
    exact k H (Same.refl H)
  | next m =>
    have hs : SqT K H a [.str "next", .int m] := .of hg
    walk_at "w"
    refine ⟨by decide, w_new fun p H1 hp e1 h1 => ?_⟩
    refine w_inT (l := [1, 2, 3]) (.of h1) ?_
    rw [if_neg (by decide), decide_eq_true (by have := ok.1; have := ok.2; simp; omega)]
    exact k _ e1
  | stride m =>
    have hs : SqT K H a [.str "stride", .int m] := .of hg
    walk_at "w"
    refine ⟨by decide, w_new fun p H1 hp e1 h1 => ?_⟩
    refine w_inT (l := [1, 2, 3]) (.of h1) ?_
    rw [if_neg (by decide), decide_eq_true (by have := ok.1; have := ok.2; simp; omega)]
    exact k _ e1
  | pairs m =>
    have hs : SqT K H a [.str "pairs", .int m] := .of hg
    walk_at "w"
    refine ⟨by decide, w_new fun p H1 hp e1 h1 => ?_⟩
    refine w_inT (l := [1, 2]) (.of h1) ?_
    rw [if_neg (by decide), decide_eq_true (by have := ok.1; have := ok.2; simp; omega)]
    exact k _ e1
  | both x y =>
    obtain ⟨p, q, ha, hp, hq⟩ := hg
    have hs : SqT K H a [.str "both", .ref p, .ref q] := .of ha
    have hd : ((max x.depth y.depth + 1 : Nat) : Int) + d ≤ 3 := hd
    have hn : max x.depth y.depth + 1 < n + 1 := hn
    walk_at "w"
    refine w_ifT (by omega) ?_
    walk_at "w"
    refine ⟨p, d + 1, x, rfl, hp, ok.1, by omega, by omega, fun H1 e1 => ?_⟩
    walk_at "w"
    refine ⟨q, d + 1, y, rfl, gtup_same e1 hq, ok.2, by omega, by omega, fun H2 e2 => ?_⟩
    exact k _ (e1.trans e2)
def spCheck : Sp := fun vs H Q _ => ∃ a g, vs = [.ref a] ∧ GTup H g a ∧ g.ok ∧ g.depth ≤ 3 ∧ ∀ H', Same H H' → Q .non H'
def t_check_guesser (K : PySem.W.Frag) (sp_is_guesser : Sp) : TS := tIfS (tNot (tB (tCall sp_is_guesser [] E0 (tCons (tVar 0) (tCons (tC (.int 0)) (tNil)))))) (tNever) (tNext)
theorem pu_check_guesser {vs : List V} {H : Hp} {Q : VK} {E : XK} (h : spCheck vs H Q E) : t_check_guesser K (spIsG 4) (B Q) (start ["guesser"] vs) H := by
  obtain ⟨a, g, rfl, hg, ok, hd, k⟩ := h
  unfold t_check_guesser
  walk_at "w"
  refine ⟨a, 0, g, rfl, hg, ok, by omega, by omega, fun H1 e1 => ?_⟩
  walk_at "w"
  exact k _ e1
/-! ### what is begun -/
def spNI (c : CA) : Sp := fun vs H Q E => ∃ m : Int, spMade c.Neighbours [.int m] [("many", .int m)] vs H Q E
def spSI (c : CA) : Sp := fun vs H Q E => ∃ m : Int, spMade c.Strides [.int m] [("times", .int m), ("last", .non), ("stride", .int 0), ("same", .int 0)] vs H Q E
def spBI (c : CA) : Sp := fun vs H Q E => ∃ x y : V, spMade c.Both [x, y] [("one", x), ("other", y)] vs H Q E
def spBegun (c : CA) (n : Nat) : Sp := fun vs H Q _ => ∃ a g, vs = [.ref a] ∧ GTup H g a ∧ g.depth < n ∧
  ∀ H' p M, Same H H' → GAt c H' 0 (begun g) p M → Dom M H' → (∀ b, M b → H b = none) → Q (.ref p) H'
theorem made_same {H H' : Hp} {x dx : Addr} {o u : HO} (hx : H x = none) (hdx : H dx = none) (h : Out (Is x) (upd (upd H dx o) x u) H') : Same H H' := fun b v hb => by
  have n1 : b ≠ x := fun z => by rw [z, hx] at hb; cases hb
  have n2 : b ≠ dx := fun z => by rw [z, hdx] at hb; cases hb
  exact h b v (by rw [upd_ne n1, upd_ne n2]; exact hb) n1
theorem dom_is {H : Hp} {x : Addr} {o : HO} (h : H x = some o) : Dom (Is x) H := fun b z => ⟨o, by rw [show b = x from z]; exact h⟩
def t_begun (K : PySem.W.Frag) (c_Neighbours c_Strides c_Pairs c_Both c_Silent : Addr) (sp_Neighbours_init sp_Strides_init sp_Pairs_init sp_Both_init sp_begun : Sp) : TS := tMatch (tVar 0) (csCons (mSeq K 2 (msCons (mVal (.str "next")) (msCons (mCap) (msNil)))) [1] (tRet (tMake c_Neighbours sp_Neighbours_init [] E0 (tCons (tVar 1) (tNil))))
    (csCons (mSeq K 2 (msCons (mVal (.str "stride")) (msCons (mCap) (msNil)))) [2] (tRet (tMake c_Strides sp_Strides_init [] E0 (tCons (tVar 2) (tNil))))
    (csCons (mSeq K 2 (msCons (mVal (.str "pairs")) (msCons (mCap) (msNil)))) [1] (tRet (tMake c_Pairs sp_Pairs_init [] E0 (tCons (tVar 1) (tNil))))
    (csCons (mSeq K 3 (msCons (mVal (.str "both")) (msCons (mCap) (msCons (mCap) (msNil))))) [3, 4] (tRet (tMake c_Both sp_Both_init [] E0 (tCons (tCall sp_begun [] E0 (tCons (tVar 3) (tNil))) (tCons (tCall sp_begun [] E0 (tCons (tVar 4) (tNil))) (tNil)))))
    (csCons (mAny) [] (tRet (tMakeN c_Silent))
    (csNil))))))
theorem pu_begun {vs : List V} {H : Hp} {Q : VK} {E : XK} {n : Nat} (h : spBegun c (n + 1) vs H Q E) : t_begun K c.Neighbours c.Strides c.Pairs c.Both c.Silent (spNI c) (spSI c) (spPairsInit c) (spBI c) (spBegun c n) (B Q) (start ["guesser", "many", "times", "one", "other"] vs) H := by
  obtain ⟨a, g, rfl, hg, hn, k⟩ := h
  unfold t_begun
  walk_at "w"
  cases g with
  | non =>
    have hs : SqT K H a [.str "none"] := .of hg
    walk_at "w"
    intro x dx hx hdx ne
    refine k _ x (Is x) (made_same hx hdx Out.refl) ⟨dx, upd_same, rfl⟩ (dom_is upd_same) (fun b z => by rw [show b = x from z]; exact hx)
  | next m =>
    have hs : SqT K H a [.str "next", .int m] := .of hg
    walk_at "w"
    intro x dx hx hdx ne
    refine ⟨m, x, dx, rfl, upd_same, fun H' h1 h2 => ⟨rfl, ?_⟩⟩
    refine k _ x (Is x) (made_same hx hdx h2) ⟨dx, h1, rfl⟩ (dom_is h1) (fun b z => by rw [show b = x from z]; exact hx)
  | stride m =>
    have hs : SqT K H a [.str "stride", .int m] := .of hg
    walk_at "w"
    intro x dx hx hdx ne
    refine ⟨m, x, dx, rfl, upd_same, fun H' h1 h2 => ⟨rfl, ?_⟩⟩
    refine k _ x (Is x) (made_same hx hdx h2) ⟨dx, h1, rfl⟩ (dom_is h1) (fun b z => by rw [show b = x from z]; exact hx)
  | pairs m =>
    have hs : SqT K H a [.str "pairs", .int m] := .of hg
    walk_at "w"
    intro x dx hx hdx ne
    refine ⟨x, dx, m, rfl, upd_same, fun H' d hd h1 h3 h2 => ⟨rfl, ?_⟩⟩
    have dnx : d ≠ x := fun z => by rw [z, upd_same] at hd; cases hd
    have hd0 : H d = none := by
      rw [upd_ne dnx] at hd
      by_cases z : d = dx
      · rw [z]; exact hdx
      · rw [upd_ne z] at hd; exact hd
    refine k _ x (fun b => b = x ∨ b = d) (made_same hx hdx h2) ⟨dx, d, [], h1, .inl rfl, h3, .inr rfl, Nat.le_refl _, fun q => rfl⟩ ?_ ?_
    · rintro b (z | z)
      · exact ⟨_, by rw [z]; exact h1⟩
      · exact ⟨_, by rw [z]; exact h3⟩
    · rintro b (z | z)
      · rw [z]; exact hx
      · rw [z]; exact hd0
  | both x y =>
    obtain ⟨p, q, ha, hp, hq⟩ := hg
    have hs : SqT K H a [.str "both", .ref p, .ref q] := .of ha
    have hn : max x.depth y.depth + 1 < n + 1 := hn
    walk_at "w"
    refine ⟨p, x, rfl, hp, by omega, fun H1 p1 M1 e1 g1 d1 f1 => ?_⟩
    walk_at "w"
    refine ⟨q, y, rfl, gtup_same e1 hq, by omega, fun H2 p2 M2 e2 g2 d2 f2 => ?_⟩
    walk_at "w"
    intro z dx hz hdx ne
    refine ⟨.ref p1, .ref p2, z, dx, rfl, upd_same, fun H' h1 h2 => ⟨rfl, ?_⟩⟩
    have e3 := made_same hz hdx h2
    have d1' := dom_same d1 e2
    have f2' : ∀ b, M2 b → H b = none := fun b w => e1.free (f2 b w)
    refine k _ z (fun b => b = z ∨ M1 b ∨ M2 b) (e1.trans (e2.trans e3)) ⟨dx, p1, p2, M1, M2, h1, .inl rfl, gat_same d1' e3 (gat_same d1 e2 g1), gat_same d2 e3 g2, fun b w => .inr (.inl w), fun b w => .inr (.inr w), fun b w1 w2 => ?_, not_dom d1' hz, not_dom d2 hz⟩ ?_ ?_
    · obtain ⟨o, ho⟩ := d1 b w1
      rw [f2 b w2] at ho
      cases ho
    · rintro b (w | w | w)
      · exact ⟨_, by rw [w]; exact h1⟩
      · exact dom_same d1' e3 b w
      · exact dom_same d2 e3 b w
    · rintro b (w | w | w)
      · rw [w]; exact e1.free (e2.free hz)
      · exact f1 b w
      · exact f2' b w
/-! ### guesses -/
def row (g : G) (ls : List Int) (k : Nat) : List V := (((begun g).after (ls.take k)).says (ls.getD k 0)).map V.int
def spGuesses (K : PySem.W.Frag) : Sp := fun vs H Q _ => ∃ a l g ls, vs = [.ref a, .ref l] ∧ GTup H g a ∧ g.ok ∧ g.depth ≤ 3 ∧ SqL K H l (ls.map V.int) ∧ ls.length ≤ 1000 ∧
  ∀ H' q rs, Same H H' → H q = none → H' q = some (.lst (rs.map V.ref)) → rs.length = ls.length → (∀ k r, rs[k]? = some r → H r = none ∧ H' r = some (.lst (row g ls k))) → (q :: rs).Nodup → Q (.ref q) H'
theorem after_deep : ∀ (l : List Int) (s : S), deep (s.after l) = deep s
  | [], _ => rfl
  | x :: l, s => (after_deep l (s.next x)).trans (deep_next s x)
theorem after_good : ∀ (l : List Int) {s : S}, Good s → Good (s.after l)
  | [], _, h => h
  | x :: l, _, h => after_good l (good_next x h)
def t_guesses (K : PySem.W.Frag) (R_guess : Lab → Addr) (sp_check_guesser sp_begun : Sp) (sp_guess : Lab → Sp) : TS := tSeq (tDrop (tCall sp_check_guesser [] E0 (tCons (tVar 0) (tNil))))
  (tSeq (tAsg (tCall sp_begun [] E0 (tCons (tVar 0) (tNil))) (gName 2))
  (tRet (tLc (iList K (tVar 1)) (gName 3) (tYes) (tOneOf R_guess "guess" sp_guess E0 (tVar 2) (tCons (tVar 3) (tNil))) [3])))
theorem pu_guesses {vs : List V} {H : Hp} {Q : VK} {E : XK} (h : spGuesses K vs H Q E) : t_guesses K c.at spCheck (spBegun c 4) (spGuessL c 3) (B Q) (start ["guesser", "places", "told", "place"] vs) H := by
  obtain ⟨a, l, g, ls, rfl, hg, ok, hd, hL, hz, k⟩ := h
  unfold t_guesses
  walk_at "w"
  refine ⟨a, g, rfl, hg, ok, hd, fun H1 e1 => ?_⟩
  walk_at "w"
  refine ⟨a, g, rfl, gtup_same e1 hg, by omega, fun H2 p M e2 g2 d2 f2 => ?_⟩
  walk_at "w"
  have e02 := e1.trans e2
  have hL2 := e02.seq hL
  have f0 : ∀ b, M b → H b = none := fun b z => e1.free (f2 b z)
  refine ⟨l, rfl, ⟨_, hL2⟩, fun Dl hD => lc_list (xs := ls.map V.int) (fun i H' => ∃ (rs : List Addr) (M' : Addr → Prop), H' Dl = some (.lst (rs.map V.ref)) ∧ rs.length = i ∧ (∀ k r, rs[k]? = some r → H r = none ∧ H' r = some (.lst (row g ls k))) ∧ (Dl :: rs).Nodup ∧
    GAt c H' i ((begun g).after (ls.take i)) p M' ∧ Dom M' H' ∧ ¬ M' Dl ∧ (∀ r, r ∈ rs → ¬ M' r) ∧ (∀ b, M' b → H b = none) ∧ Same H H') ?_ (fun i H' _ p => ?_) (fun i x H' hi p => ?_) (fun H' p => ?_)⟩
  · have s1 := same_upd (o := .lst []) hD
    exact ⟨[], M, upd_same, rfl, fun k r e => by simp at e, by simp, gat_same d2 s1 g2, dom_same d2 s1, not_dom d2 hD, fun r hr => by simp at hr, f0, e02.trans s1⟩
  · obtain ⟨_, _, _, _, _, _, _, _, _, _, _, s⟩ := p
    exact s.seq hL
  · obtain ⟨rs, M', h1, h2, h3, h4, h5, h6, h7, h8, h9, h10⟩ := p
    obtain ⟨y, hy, rfl⟩ : ∃ y, ls[i]? = some y ∧ x = V.int y := by
      rw [List.getElem?_map] at hi
      cases e : ls[i]? with
      | none => rw [e] at hi; cases hi
      | some y => rw [e] at hi; exact ⟨y, rfl, (Option.some.inj hi).symm⟩
    have hil : i < ls.length := (List.getElem?_eq_some_iff.mp hy).1
    refine ⟨rfl, ?_⟩
    walk_at "w"
    obtain ⟨dx, fs, hp, lk⟩ := gat_ins h5
    refine ⟨p, lab ((begun g).after (ls.take i)), dx, fs, rfl, hp, lk, ?_⟩
    walk_at "w"
    refine ⟨p, y, _, M', i, rfl, rfl, h5, h6, by rw [after_deep, deep_begun]; exact hd, after_good _ (good_begun ok), by omega, fun H4 q M4 fq hq nq g4 d4 t4 s4 o4 => ?_⟩
    have hDl4 := o4 _ _ h1 h7
    have nDq : q ≠ Dl := fun z => by rw [z, h1] at fq; cases fq
    have nD4 : ¬ M4 Dl := fun z => by
      rcases s4 Dl z with w | w
      · exact h7 w
      · rw [h1] at w; cases w
    refine ⟨rs.map V.ref, hDl4, small_lt (by rw [List.length_map]; omega), rs ++ [q], M4, by rw [upd_same, List.map_append]; rfl, by rw [List.length_append, h2]; rfl, fun k r e => ?_, ?_, ?_, ?_, nD4, fun r hr => ?_, fun b z => ?_, fun b o hb => ?_⟩
    · by_cases hk : k < rs.length
      · rw [List.getElem?_append_left hk] at e
        obtain ⟨w1, w2⟩ := h3 k r e
        have hm : r ∈ rs := List.mem_of_getElem? e
        have nrD : r ≠ Dl := fun z => by
          rw [z] at hm
          exact (List.nodup_cons.mp h4).1 hm
        exact ⟨w1, by rw [upd_ne nrD]; exact o4 _ _ w2 (h8 r hm)⟩
      · have hk2 : k = rs.length := by
          have := (List.getElem?_eq_some_iff.mp e).1
          rw [List.length_append] at this
          simp at this
          omega
        rw [hk2, List.getElem?_append_right (Nat.le_refl _), Nat.sub_self] at e
        have e : q = r := by simpa using e
        subst e
        have hki : k = i := by omega
        refine ⟨h10.free fq, ?_⟩
        rw [upd_ne nDq, hq, hki]
        unfold row
        rw [List.getD_eq_getElem?_getD, hy]
        rfl
    · have w := List.nodup_cons.mp h4
      refine List.nodup_cons.mpr ⟨fun z => ?_, List.nodup_append.mpr ⟨w.2, by simp, fun r hr s hs => ?_⟩⟩
      · rcases List.mem_append.mp z with z | z
        · exact w.1 z
        · exact nDq (List.mem_singleton.mp z).symm
      · rintro rfl
        have : r = q := List.mem_singleton.mp hs
        obtain ⟨k, hk⟩ := List.getElem?_of_mem hr
        have := (h3 k r hk).2
        rw [‹r = q›, fq] at this
        cases this
    · have e : (ls.take (i + 1)) = ls.take i ++ [y] := SwX.take_more hy
      rw [e, after_snoc]
      refine gat_keep (fun b z => upd_ne fun w => nD4 (w ▸ z)) g4
    · intro b z
      obtain ⟨o, ho⟩ := d4 b z
      exact ⟨o, by rw [upd_ne (fun (w : b = Dl) => nD4 (w ▸ z))]; exact ho⟩
    · rcases List.mem_append.mp hr with z | z
      · intro w
        rcases s4 r w with v | v
        · exact h8 r z v
        · obtain ⟨k, hk⟩ := List.getElem?_of_mem z
          have := (h3 k r hk).2
          rw [v] at this
          cases this
      · rw [List.mem_singleton.mp z]
        exact nq
    · rcases s4 b z with w | w
      · exact h9 b w
      · exact h10.free w
    · have w := h10 b o hb
      have nb : b ≠ Dl := fun z => by rw [z, e02.free hD] at hb; cases hb
      rw [upd_ne nb]
      exact o4 _ _ w (fun z => by rw [h9 b z] at hb; cases hb)
  · obtain ⟨rs, M', h1, h2, h3, h4, h5, h6, h7, h8, h9, h10⟩ := p
    exact k H' Dl rs h10 (e02.free hD) h1 (by rw [h2, List.length_map]) h3 h4
end
end SwD
set_option Elab.async false
set_option linter.all false
set_option maxRecDepth 100000
set_option maxHeartbeats 4000000
namespace SwD
open PySem PySem.Spec PyProof.Rows L2 SwX StX Sw
local macro_rules | `(tactic| walk_at "lk") => `(tactic| first | exact lk_at | exact lk_no | ((refine' lk_by (by decide +kernel) ?wq); (case wq => walk_at "lk")))
local macro_rules | `(tactic| walk_at "pf") => `(tactic| first | exact pf_at | exact pf_nil | ((refine' pf_by (by decide +kernel) ?wq); (case wq => walk_at "pf")))
local macro_rules | `(tactic| walk_at "w1") => `(tactic| with_reducible first
  | refine w_seq ?_ | refine w_asg ?_ | refine w_name ?_ | refine w_ret ?_ | refine w_retN ?_ | refine w_drop ?_ | refine w_next ?_ | refine w_if ?_ | refine w_ifE ?_ | refine w_test ?_ | refine w_B ?_ | refine w_bl ?_
  | refine w_not ?_ | refine w_and ?_ | refine w_or ?_ | refine w_andV ?_ | refine w_orV ?_ | refine w_notV ?_ | refine w_isN ?_ | refine w_notN ?_ | refine w_yes ?_
  | refine w_c ?_ | refine w_op ?_ | refine w_un ?_ | refine w_i0 ?_ | refine w_neg ?_ | refine w_nil ?_ | refine w_cons ?_ | refine w_cb ?_ | refine w_call ?_ | refine w_tup ?_ | refine w_lst ?_
  | refine w_fld ?_ | refine w_sfld ?_ | refine w_match ?_ | refine w_case ?_ | refine w_mcons ?_ | refine w_mnil ?_ | refine w_mcap ?_ | refine w_many ?_ | refine w_myes ?_
  | refine w_sub ?_ | refine w_bm ?_ | refine w_sl ?_ | refine w_nopart ?_ | refine w_part ?_ | refine w_int ?_ | refine w_ift ?_ | refine w_iff ?_ | refine w_ifn ?_ | refine w_dget2 ?_ | refine w_star ?_ | refine w_dput ?_ | refine w_dnewK ?_ | refine w_meth ?_ | refine w_oneOf ?_ | refine w_make ?_ | refine w_lc ?_ | refine w_for ?_ | refine w_ilist ?_ | refine w_irng1 ?_ | refine w_irng2 ?_ | refine w_irng3 ?_)
local macro_rules | `(tactic| walk_at "w2") => `(tactic| first
  | ((with_reducible refine' w_var ?wh ?_); (case wh => rfl))
  | ((with_reducible refine' w_eq ?wh ?_); (case wh => rfl))
  | ((with_reducible refine' w_ne ?wh ?_); (case wh => rfl))
  | ((with_reducible refine' w_mno ?wh ?_); (case wh => decide +kernel))
  | ((with_reducible refine' w_mhit ?wh ?wl ?_); (case wh => assumption); (case wl => rfl))
  | ((with_reducible refine' w_mmiss ?wh ?wl ?_); (case wh => assumption); (case wl => simp))
  | ((with_reducible refine' w_fldA ?wh ?wc ?wn ?wl ?_); (case wh => first | assumption | exact upd_same); (case wc => assumption); (case wn => assumption); (case wl => walk_at "lk"))
  | ((with_reducible refine' w_ixl ?wh ?we ?_); (case wh => exact SqL.of (by first | assumption | exact upd_same)); (case we => rfl))
  | ((with_reducible refine' w_ixt ?wh ?we ?_); (case wh => assumption); (case we => rfl))
  | ((with_reducible refine' w_ifT ?wh ?_); (case wh => (with_reducible exact Eq.refl _)))
  | ((with_reducible refine' w_ifF ?wh ?_); (case wh => decide +kernel))
  | ((with_reducible refine' w_isiY ?wh ?wk ?_); (case wh => first | exact .int _ | exact .str _ | exact .lst (by assumption) | exact .tup (by assumption)); (case wk => decide +kernel))
  | ((with_reducible refine' w_isiN ?wh ?wk ?_); (case wh => first | exact .int _ | exact .str _ | exact .lst (by assumption) | exact .tup (by assumption)); (case wk => decide +kernel))
  | ((with_reducible refine' w_ifF ?wh ?_); (case wh => (intro z; cases z; done)))
  | ((with_reducible refine' w_setl ?wh ?we ?wl ?_); (case wh => first | assumption | exact upd_same); (case we => rfl); (case wl => rfl))
  | ((with_reducible refine' w_methA ?wh ?wl ?_); (case wh => first | assumption | exact upd_same); (case wl => walk_at "lk"))
  | ((with_reducible refine' w_sfldB ?wc ?wn ?wz ?wl ?_); (case wc => assumption); (case wn => assumption); (case wz => simp); (case wl => walk_at "pf"))
  | ((with_reducible refine' w_sfldA ?wh ?wc ?wn ?wz ?wl ?_); (case wh => assumption); (case wc => assumption); (case wn => assumption); (case wz => simp); (case wl => walk_at "pf")))
local macro_rules | `(tactic| walk_at "w") => `(tactic| repeat (first | walk_at "w1" | walk_at "w2" | (dsimp only [List.set, setAll, List.append, List.cons_append, List.nil_append])))
/-! ### the row that numbers are taken of -/
/-- the script: locked, or written -/
def Scr (K : PySem.W.Frag) (H : Hp) (a : Addr) (xs : List V) : Prop := (∃ o, H a = some (.frz o (.lst xs))) ∨
    ∃ (o : Obj) (its : Array Value) (n : Nat), K.lookup a = some o ∧ o.cls = .type "list" ∧ o.dict = none ∧ o.data = .seq its n ∧ its.size ≤ sizeLine ∧ Vals xs its.toList
theorem scr_seq {K : PySem.W.Frag} {H : Hp} {a : Addr} {xs : List V} (h : Scr K H a xs) : SqL K H a xs := by
  rcases h with h | h
  · exact .inl (.inr h)
  · exact .inr h
theorem scr_keep {K : PySem.W.Frag} {H H' : Hp} {a : Addr} {xs : List V} (k : ∀ o u, H a = some (.frz o u) → H' a = some (.frz o u)) (h : Scr K H a xs) : Scr K H' a xs := by
  rcases h with ⟨o, h⟩ | h
  · exact .inl ⟨o, k _ _ h⟩
  · exact .inr h
theorem scr_of {K : PySem.W.Frag} {H : Hp} {a : Addr} {xs : List V} (o : Only H) (h : SqL K H a xs) : Scr K H a xs := by
  rcases h with (h | h) | h
  · rcases o a with z | ⟨u, ys, z⟩
    · rw [z] at h; cases h
    · rw [z] at h; cases h
  · exact .inl h
  · exact .inr h
theorem scr_upd {K : PySem.W.Frag} {H : Hp} {a q : Addr} {xs ys : List V} {u : HO} (hq : H q = some (.lst ys)) (h : Scr K H a xs) : Scr K (upd H q u) a xs :=
  scr_keep (fun o v z => by rw [upd_ne (ne_of z hq (fun w => nomatch w))]; exact z) h
def RowAt (K : PySem.W.Frag) (H : Hp) (r : Addr) : Prop := ∃ (scr : Addr) (i z : Int) (ns : List Int), H r = some (.lst [.ref scr, .int i, .int z]) ∧ 0 ≤ i ∧ 0 ≤ z ∧ z < 2147483647 ∧ Scr K H scr (ns.map V.int)
def spTaken (K : PySem.W.Frag) : Sp := fun vs H Q _ => ∃ r m, vs = [.ref r, .int m] ∧ 1 ≤ m ∧ RowAt K H r ∧ ∀ H' v, 0 ≤ v → v < m → RowAt K H' r → Out (Is r) H H' → Q (.int v) H'
section
variable {K : PySem.W.Frag}
def t_law_taken (K : PySem.W.Frag) : TS := tSeq (tAsg (tOp (rAddI) (tOp (rIxL K) (tVar 0) (tC (.int 1))) (tC (.int 1))) (gSub (tVar 0) (tC (.int 1)) rSetL))
  (tSeq (tIfS (tTest (tOp (rGtI) (tOp (rIxL K) (tVar 0) (tC (.int 1))) (tCB (rLenQ K) (tCons (tOp (rIxL K) (tVar 0) (tC (.int 0))) (tNil))))) (tSeq (tAsg (tOp (rModI) (tOp (rAddI) (tOp (rMulI) (tOp (rIxL K) (tVar 0) (tC (.int 2))) (tC (.int 48271))) (tC (.int 11))) (tC (.int 2147483647))) (gSub (tVar 0) (tC (.int 2)) rSetL))
  (tRet (tOp (rModI) (tOp (rDivI) (tOp (rIxL K) (tVar 0) (tC (.int 2))) (tC (.int 7))) (tVar 1)))) (tNext))
  (tSeq (tAsg (tOp (rIxL K) (tOp (rIxL K) (tVar 0) (tC (.int 0))) (tOp (rSubI) (tOp (rIxL K) (tVar 0) (tC (.int 1))) (tC (.int 1)))) (gName 2))
  (tSeq (tAsg (tOp (rModI) (tOp (rAddI) (tOp (rAddI) (tOp (rMulI) (tOp (rIxL K) (tVar 0) (tC (.int 2))) (tC (.int 48271))) (tVar 2)) (tC (.int 11))) (tC (.int 2147483647))) (gSub (tVar 0) (tC (.int 2)) rSetL))
  (tRet (tOp (rModI) (tVar 2) (tVar 1))))))
theorem pu_law_taken {vs : List V} {H : Hp} {Q : VK} {E : XK} (h : spTaken K vs H Q E) : t_law_taken K (B Q) (start ["_law_row", "_law_many", "_law_cell"] vs) H := by
  obtain ⟨r, m, rfl, hm, ⟨scr, i, z, ns, hr, hi, hz0, hz1, hs⟩, k⟩ := h
  unfold t_law_taken
  walk_at "w"
  have hs1 : SqL K (upd H r (.lst [.ref scr, .int (i + 1), .int z])) scr (ns.map V.int) := scr_seq (scr_upd hr hs)
  refine w_len (.inl hs1) ?_
  walk_at "w"
  refine w_if2 (fun c => ?_) (fun c => ?_)
  · walk_at "w"
    refine w_i (.inr ⟨by decide, by decide⟩) ?_
    walk_at "w"
    refine w_i (by decide) ?_
    walk_at "w"
    refine w_i ⟨by decide, by decide⟩ ?_
    walk_at "w"
    refine w_i (by omega) ?_
    rw [upd_upd]
    refine k _ _ (Int.emod_nonneg _ (by omega)) (Int.emod_lt_of_pos _ (by omega)) ⟨scr, i + 1, _, ns, upd_same, by omega, Int.emod_nonneg _ (by decide), Int.emod_lt_of_pos _ (by decide), scr_upd hr hs⟩ out_upd
  · rw [List.length_map] at c
    walk_at "w"
    have hj : (i + 1 - 1).toNat < ns.length := by omega
    have hat : atI (ns.map V.int) (i + 1 - 1) = some (.int ns[(i + 1 - 1).toNat]) := by
      have e : i + 1 - 1 = (((i + 1 - 1).toNat : Nat) : Int) := by omega
      have q := atI_nat (xs := ns.map V.int) (j := (i + 1 - 1).toNat) (v := .int ns[(i + 1 - 1).toNat]) (by rw [List.getElem?_map, List.getElem?_eq_getElem hj]; rfl)
      rw [← e] at q
      exact q
    refine w_ixl hs1 hat ?_
    walk_at "w"
    refine w_i (.inr ⟨by decide, by decide⟩) ?_
    walk_at "w"
    refine w_i (by decide) ?_
    walk_at "w"
    refine w_i (by omega) ?_
    rw [upd_upd]
    refine k _ _ (Int.emod_nonneg _ (by omega)) (Int.emod_lt_of_pos _ (by omega)) ⟨scr, i + 1, _, ns, upd_same, by omega, Int.emod_nonneg _ (by decide), Int.emod_lt_of_pos _ (by decide), scr_upd hr hs⟩ out_upd
end
end SwD
set_option Elab.async false
set_option linter.all false
set_option maxRecDepth 100000
set_option maxHeartbeats 4000000
namespace SwD
open PySem PySem.Spec PyProof.Rows L2 SwX StX Sw
local macro_rules | `(tactic| walk_at "lk") => `(tactic| first | exact lk_at | exact lk_no | ((refine' lk_by (by decide +kernel) ?wq); (case wq => walk_at "lk")))
local macro_rules | `(tactic| walk_at "pf") => `(tactic| first | exact pf_at | exact pf_nil | ((refine' pf_by (by decide +kernel) ?wq); (case wq => walk_at "pf")))
local macro_rules | `(tactic| walk_at "w1") => `(tactic| with_reducible first
  | refine w_seq ?_ | refine w_asg ?_ | refine w_name ?_ | refine w_ret ?_ | refine w_retN ?_ | refine w_drop ?_ | refine w_next ?_ | refine w_if ?_ | refine w_ifE ?_ | refine w_test ?_ | refine w_B ?_ | refine w_bl ?_
  | refine w_not ?_ | refine w_and ?_ | refine w_or ?_ | refine w_andV ?_ | refine w_orV ?_ | refine w_notV ?_ | refine w_isN ?_ | refine w_notN ?_ | refine w_yes ?_
  | refine w_c ?_ | refine w_op ?_ | refine w_un ?_ | refine w_i0 ?_ | refine w_neg ?_ | refine w_nil ?_ | refine w_cons ?_ | refine w_cb ?_ | refine w_call ?_ | refine w_tup ?_ | refine w_lst ?_
  | refine w_fld ?_ | refine w_sfld ?_ | refine w_match ?_ | refine w_case ?_ | refine w_mcons ?_ | refine w_mnil ?_ | refine w_mcap ?_ | refine w_many ?_ | refine w_myes ?_
  | refine w_sub ?_ | refine w_bm ?_ | refine w_sl ?_ | refine w_nopart ?_ | refine w_part ?_ | refine w_int ?_ | refine w_ift ?_ | refine w_iff ?_ | refine w_ifn ?_ | refine w_dget2 ?_ | refine w_star ?_ | refine w_dput ?_ | refine w_dnewK ?_ | refine w_meth ?_ | refine w_oneOf ?_ | refine w_make ?_ | refine w_lc ?_ | refine w_for ?_ | refine w_ilist ?_ | refine w_irng1 ?_ | refine w_irng2 ?_ | refine w_irng3 ?_)
local macro_rules | `(tactic| walk_at "w2") => `(tactic| first
  | ((with_reducible refine' w_var ?wh ?_); (case wh => rfl))
  | ((with_reducible refine' w_eq ?wh ?_); (case wh => rfl))
  | ((with_reducible refine' w_ne ?wh ?_); (case wh => rfl))
  | ((with_reducible refine' w_mno ?wh ?_); (case wh => decide +kernel))
  | ((with_reducible refine' w_mhit ?wh ?wl ?_); (case wh => assumption); (case wl => rfl))
  | ((with_reducible refine' w_mmiss ?wh ?wl ?_); (case wh => assumption); (case wl => simp))
  | ((with_reducible refine' w_fldA ?wh ?wc ?wn ?wl ?_); (case wh => first | assumption | exact upd_same); (case wc => assumption); (case wn => assumption); (case wl => walk_at "lk"))
  | ((with_reducible refine' w_ixl ?wh ?we ?_); (case wh => exact SqL.of (by first | assumption | exact upd_same)); (case we => rfl))
  | ((with_reducible refine' w_ixt ?wh ?we ?_); (case wh => assumption); (case we => rfl))
  | ((with_reducible refine' w_ifT ?wh ?_); (case wh => (with_reducible exact Eq.refl _)))
  | ((with_reducible refine' w_ifF ?wh ?_); (case wh => decide +kernel))
  | ((with_reducible refine' w_isiY ?wh ?wk ?_); (case wh => first | exact .int _ | exact .str _ | exact .lst (by assumption) | exact .tup (by assumption)); (case wk => decide +kernel))
  | ((with_reducible refine' w_isiN ?wh ?wk ?_); (case wh => first | exact .int _ | exact .str _ | exact .lst (by assumption) | exact .tup (by assumption)); (case wk => decide +kernel))
  | ((with_reducible refine' w_ifF ?wh ?_); (case wh => (intro z; cases z; done)))
  | ((with_reducible refine' w_setl ?wh ?we ?wl ?_); (case wh => first | assumption | exact upd_same); (case we => rfl); (case wl => rfl))
  | ((with_reducible refine' w_methA ?wh ?wl ?_); (case wh => first | assumption | exact upd_same); (case wl => walk_at "lk"))
  | ((with_reducible refine' w_sfldB ?wc ?wn ?wz ?wl ?_); (case wc => assumption); (case wn => assumption); (case wz => simp); (case wl => walk_at "pf"))
  | ((with_reducible refine' w_sfldA ?wh ?wc ?wn ?wz ?wl ?_); (case wh => assumption); (case wc => assumption); (case wn => assumption); (case wz => simp); (case wl => walk_at "pf")))
local macro_rules | `(tactic| walk_at "w") => `(tactic| repeat (first | walk_at "w1" | walk_at "w2" | (dsimp only [List.set, setAll, List.append, List.cons_append, List.nil_append])))
section
variable {K : PySem.W.Frag}
theorem row_same {H H' : Hp} {r : Addr} (e : Same H H') (h : RowAt K H r) : RowAt K H' r := by
  obtain ⟨scr, i, z, ns, hr, hi, hz0, hz1, hs⟩ := h
  exact ⟨scr, i, z, ns, e _ _ hr, hi, hz0, hz1, scr_keep (fun o u w => e _ _ w) hs⟩
theorem row_put {H : Hp} {r q : Addr} {xs : List V} {u : HO} (h : RowAt K H r) (hq : H q = some (.lst xs)) (n : q ≠ r) : RowAt K (upd H q u) r := by
  obtain ⟨scr, i, z, ns, hr, hi, hz0, hz1, hs⟩ := h
  exact ⟨scr, i, z, ns, by rw [upd_ne n.symm]; exact hr, hi, hz0, hz1, scr_upd hq hs⟩
theorem row_lst {H : Hp} {r : Addr} (h : RowAt K H r) : ∃ xs, H r = some (.lst xs) := by
  obtain ⟨scr, i, z, ns, hr, _⟩ := h
  exact ⟨_, hr⟩
theorem row_tup {H H' : Hp} {r a : Addr} {xs : List V} (h : RowAt K H r) (o : Out (Is r) H H') (t : H a = some (.tup xs)) : H' a = some (.tup xs) := by
  obtain ⟨ys, hy⟩ := row_lst h
  exact o _ _ t (ne_of t hy (fun z => nomatch z))
theorem row_new {H : Hp} {r a : Addr} (h : RowAt K H r) (n : H a = none) : a ≠ r := fun z => by
  obtain ⟨ys, hy⟩ := row_lst h
  rw [z, hy] at n
  cases n
theorem row_gtup {H H' : Hp} {r a : Addr} {g : G} (h : RowAt K H r) (o : Out (Is r) H H') (t : GTup H g a) : GTup H' g a := gtup_keep (fun _ _ z => row_tup h o z) t
theorem row_free {H H' : Hp} {r a : Addr} (h : RowAt K H' r) (o : Out (Is r) H H') (n : H' a = none) : H a = none := out_free o n (row_new h n)
def spLawGuesser (K : PySem.W.Frag) (n : Nat) : Sp := fun vs H Q _ => ∃ r d, vs = [.ref r, .int d] ∧ 0 ≤ d ∧ d ≤ 3 ∧ d.toNat < n ∧ RowAt K H r ∧
  ∀ H' a g, g.ok → (g.depth : Int) ≤ d → GTup H' g a → RowAt K H' r → Out (Is r) H H' → Q (.ref a) H'
def t_law_guesser (K : PySem.W.Frag) (sp_law_taken sp_law_guesser : Sp) : TS := tSeq (tAsg (tCall sp_law_taken [] E0 (tCons (tVar 0) (tCons (tOp (rIxL K) (tLst (tCons (tC (.int 6)) (tCons (tC (.int 8)) (tNil)))) (tCB (rInt1) (tCons (tOp (rGtI) (tVar 1) (tC (.int 0))) (tNil)))) (tNil)))) (gName 2))
  (tSeq (tIfS (tTest (tOp (rGtI) (tVar 2) (tC (.int 5)))) (tSeq (tAsg (tCall sp_law_guesser [] E0 (tCons (tVar 0) (tCons (tOp (rSubI) (tVar 1) (tC (.int 1))) (tNil)))) (gName 3))
  (tRet (tTup (tCons (tC (.str "both")) (tCons (tVar 3) (tCons (tCall sp_law_guesser [] E0 (tCons (tVar 0) (tCons (tOp (rSubI) (tVar 1) (tC (.int 1))) (tNil)))) (tNil))))))) (tNext))
  (tSeq (tAsg (tLst (tCons (tTup (tCons (tC (.str "none")) (tNil))) (tCons (tTup (tCons (tC (.str "next")) (tCons (tOp (rAddI) (tC (.int 1)) (tCall sp_law_taken [] E0 (tCons (tVar 0) (tCons (tC (.int 3)) (tNil))))) (tNil)))) (tCons (tTup (tCons (tC (.str "stride")) (tCons (tOp (rAddI) (tC (.int 1)) (tCall sp_law_taken [] E0 (tCons (tVar 0) (tCons (tC (.int 3)) (tNil))))) (tNil)))) (tNil))))) (gName 4))
  (tSeq (tAsg (tOp (rCat) (tVar 4) (tLst (tCons (tTup (tCons (tC (.str "pairs")) (tCons (tOp (rAddI) (tC (.int 1)) (tCall sp_law_taken [] E0 (tCons (tVar 0) (tCons (tC (.int 2)) (tNil))))) (tNil)))) (tCons (tTup (tCons (tC (.str "stride")) (tCons (tC (.int 1)) (tNil)))) (tCons (tTup (tCons (tC (.str "next")) (tCons (tC (.int 1)) (tNil)))) (tNil)))))) (gName 4))
  (tRet (tOp (rIxL K) (tVar 4) (tVar 2))))))
theorem pu_law_guesser {vs : List V} {H : Hp} {Q : VK} {E : XK} {n : Nat} (h : spLawGuesser K (n + 1) vs H Q E) : t_law_guesser K (spTaken K) (spLawGuesser K n) (B Q) (start ["_law_row", "_law_within", "_law_way", "_law_one", "_law_sorts"] vs) H := by
  obtain ⟨r, d, rfl, d0, d3, dn, row, k⟩ := h
  unfold t_law_guesser
  walk_at "w"
  refine ⟨by decide, w_new fun p1 H1 hp1 e1 h1 => ?_⟩
  walk_at "w"
  refine .inr ⟨_, rfl, ?_⟩
  obtain ⟨m, hm, m1, m8, m6⟩ : ∃ m : Int, atI [V.int 6, V.int 8] (if decide (0 < d) = true then 1 else 0) = some (.int m) ∧ 1 ≤ m ∧ m ≤ 8 ∧ (d = 0 → m ≤ 6) := by
    by_cases hd : 0 < d
    · refine ⟨8, ?_, by decide, by decide, fun z => by omega⟩
      rw [decide_eq_true hd, if_pos rfl]
      rfl
    · refine ⟨6, ?_, by decide, by decide, fun _ => by decide⟩
      rw [decide_eq_false hd, if_neg (by decide)]
      rfl
  refine w_ixl (.of h1) hm ?_
  walk_at "w"
  refine ⟨r, m, rfl, m1, row_same e1 row, fun H2 w w0 w1 row2 o2 => ?_⟩
  have o02 : Out (Is r) H H2 := (same_out e1).trans o2
  walk_at "w"
  refine w_if2 (fun c => ?_) (fun c => ?_)
  · have hd : 0 < d := by
      by_cases hd : d = 0
      · have := m6 hd
        omega
      · omega
    walk_at "w"
    refine ⟨r, d - 1, rfl, by omega, by omega, by omega, row2, fun H3 a g ok dp gt row3 o3 => ?_⟩
    walk_at "w"
    refine ⟨r, d - 1, rfl, by omega, by omega, by omega, row3, fun H4 b g' ok' dp' gt' row4 o4 => ?_⟩
    refine ⟨small_le (by simp), w_new fun p H5 hp e5 h5 => ?_⟩
    refine k H5 p (.both g g') ⟨ok, ok'⟩ ?_ ⟨a, b, h5, gtup_same e5 (row_gtup row3 o4 gt), gtup_same e5 gt'⟩ (row_same e5 row4) (((o02.trans o3).trans o4).trans (same_out e5))
    show ((max g.depth g'.depth + 1 : Nat) : Int) ≤ d
    omega
  · walk_at "w"
    refine ⟨small_le (by simp), w_new fun t1 H3 hp3 e3 h3 => ?_⟩
    have row3 := row_same e3 row2
    walk_at "w"
    refine ⟨r, 3, rfl, by decide, row3, fun H4 v1 v10 v13 row4 o4 => ?_⟩
    walk_at "w"
    refine ⟨small_le (by simp), w_new fun t2 H5 hp5 e5 h5 => ?_⟩
    have row5 := row_same e5 row4
    walk_at "w"
    refine ⟨r, 3, rfl, by decide, row5, fun H6 v2 v20 v23 row6 o6 => ?_⟩
    walk_at "w"
    refine ⟨small_le (by simp), w_new fun t3 H7 hp7 e7 h7 => ?_⟩
    have row7 := row_same e7 row6
    walk_at "w"
    refine ⟨small_le (by simp), w_new fun l1 H8 hp8 e8 h8 => ?_⟩
    have row8 := row_same e8 row7
    have nl1 : l1 ≠ r := row_new row7 hp8
    walk_at "w"
    refine ⟨r, 2, rfl, by decide, row8, fun H9 v3 v30 v32 row9 o9 => ?_⟩
    have h9 := o9 _ _ h8 nl1
    walk_at "w"
    refine ⟨small_le (by simp), w_new fun t4 H10 hp10 e10 h10 => ?_⟩
    walk_at "w"
    refine ⟨small_le (by simp), w_new fun t5 H11 hp11 e11 h11 => ?_⟩
    walk_at "w"
    refine ⟨small_le (by simp), w_new fun t6 H12 hp12 e12 h12 => ?_⟩
    walk_at "w"
    refine ⟨small_le (by simp), w_new fun l2 H13 hp13 e13 h13 => ?_⟩
    have e913 := e10.trans (e11.trans (e12.trans e13))
    refine w_cat (e913 _ _ h9) h13 (small_le (by simp)) (w_new fun l3 H14 hp14 e14 h14 => ?_)
    have o14 : Out (Is r) H8 H14 := o9.trans (same_out (e913.trans e14))
    have row14 : RowAt K H14 r := row_same (e913.trans e14) row9
    have g1 : GTup H14 .non t1 := row_tup row3 (o4.trans ((same_out e5).trans (o6.trans ((same_out (e7.trans e8)).trans o14)))) h3
    have g2 : GTup H14 (.next (1 + v1)) t2 := row_tup row5 (o6.trans ((same_out (e7.trans e8)).trans o14)) h5
    have g3 : GTup H14 (.stride (1 + v2)) t3 := row_tup row7 ((same_out e8).trans o14) h7
    have g4 : GTup H14 (.pairs (1 + v3)) t4 := e14 _ _ (e13 _ _ (e12 _ _ (e11 _ _ h10)))
    have g5 : GTup H14 (.stride 1) t5 := e14 _ _ (e13 _ _ (e12 _ _ h11))
    have g6 : GTup H14 (.next 1) t6 := e14 _ _ (e13 _ _ h12)
    have o_all : Out (Is r) H H14 := o02.trans ((same_out e3).trans (o4.trans ((same_out e5).trans (o6.trans ((same_out (e7.trans e8)).trans o14)))))
    walk_at "w"
    have fin : ∀ (t : Addr) (g : G), g.ok → g.depth = 0 → GTup H14 g t → atI [V.ref t1, V.ref t2, V.ref t3, V.ref t4, V.ref t5, V.ref t6] w = some (.ref t) → rIxL K (.ref l3) (.int w) H14 Q := fun t g ok dp gt hat => w_ixl (.of h14) hat (k H14 t g ok (by rw [dp]; exact d0) gt row14 o_all)
    have hw : w = 0 ∨ w = 1 ∨ w = 2 ∨ w = 3 ∨ w = 4 ∨ w = 5 := by omega
    rcases hw with rfl | rfl | rfl | rfl | rfl | rfl
    · exact fin t1 .non trivial rfl g1 rfl
    · exact fin t2 (.next (1 + v1)) ⟨by omega, by omega⟩ rfl g2 rfl
    · exact fin t3 (.stride (1 + v2)) ⟨by omega, by omega⟩ rfl g3 rfl
    · exact fin t4 (.pairs (1 + v3)) ⟨by omega, by omega⟩ rfl g4 rfl
    · exact fin t5 (.stride 1) ⟨by omega, by omega⟩ rfl g5 rfl
    · exact fin t6 (.next 1) ⟨by omega, by omega⟩ rfl g6 rfl
end
end SwD
set_option Elab.async false
set_option linter.all false
set_option maxRecDepth 100000
set_option maxHeartbeats 4000000
namespace SwD
open PySem PySem.Spec PyProof.Rows L2 SwX StX Sw
local macro_rules | `(tactic| walk_at "lk") => `(tactic| first | exact lk_at | exact lk_no | ((refine' lk_by (by decide +kernel) ?wq); (case wq => walk_at "lk")))
local macro_rules | `(tactic| walk_at "pf") => `(tactic| first | exact pf_at | exact pf_nil | ((refine' pf_by (by decide +kernel) ?wq); (case wq => walk_at "pf")))
local macro_rules | `(tactic| walk_at "w1") => `(tactic| with_reducible first
  | refine w_seq ?_ | refine w_asg ?_ | refine w_name ?_ | refine w_ret ?_ | refine w_retN ?_ | refine w_drop ?_ | refine w_next ?_ | refine w_if ?_ | refine w_ifE ?_ | refine w_test ?_ | refine w_B ?_ | refine w_bl ?_
  | refine w_not ?_ | refine w_and ?_ | refine w_or ?_ | refine w_andV ?_ | refine w_orV ?_ | refine w_notV ?_ | refine w_isN ?_ | refine w_notN ?_ | refine w_yes ?_
  | refine w_c ?_ | refine w_op ?_ | refine w_un ?_ | refine w_i0 ?_ | refine w_neg ?_ | refine w_nil ?_ | refine w_cons ?_ | refine w_cb ?_ | refine w_call ?_ | refine w_tup ?_ | refine w_lst ?_
  | refine w_fld ?_ | refine w_sfld ?_ | refine w_match ?_ | refine w_case ?_ | refine w_mcons ?_ | refine w_mnil ?_ | refine w_mcap ?_ | refine w_many ?_ | refine w_myes ?_
  | refine w_sub ?_ | refine w_bm ?_ | refine w_sl ?_ | refine w_nopart ?_ | refine w_part ?_ | refine w_int ?_ | refine w_ift ?_ | refine w_iff ?_ | refine w_ifn ?_ | refine w_dget2 ?_ | refine w_star ?_ | refine w_dput ?_ | refine w_dnewK ?_ | refine w_meth ?_ | refine w_oneOf ?_ | refine w_make ?_ | refine w_lc ?_ | refine w_for ?_ | refine w_ilist ?_ | refine w_irng1 ?_ | refine w_irng2 ?_ | refine w_irng3 ?_)
local macro_rules | `(tactic| walk_at "w2") => `(tactic| first
  | ((with_reducible refine' w_var ?wh ?_); (case wh => rfl))
  | ((with_reducible refine' w_eq ?wh ?_); (case wh => rfl))
  | ((with_reducible refine' w_ne ?wh ?_); (case wh => rfl))
  | ((with_reducible refine' w_mno ?wh ?_); (case wh => decide +kernel))
  | ((with_reducible refine' w_mhit ?wh ?wl ?_); (case wh => assumption); (case wl => rfl))
  | ((with_reducible refine' w_mmiss ?wh ?wl ?_); (case wh => assumption); (case wl => simp))
  | ((with_reducible refine' w_fldA ?wh ?wc ?wn ?wl ?_); (case wh => first | assumption | exact upd_same); (case wc => assumption); (case wn => assumption); (case wl => walk_at "lk"))
  | ((with_reducible refine' w_ixl ?wh ?we ?_); (case wh => exact SqL.of (by first | assumption | exact upd_same)); (case we => rfl))
  | ((with_reducible refine' w_ixt ?wh ?we ?_); (case wh => assumption); (case we => rfl))
  | ((with_reducible refine' w_ifT ?wh ?_); (case wh => (with_reducible exact Eq.refl _)))
  | ((with_reducible refine' w_ifF ?wh ?_); (case wh => decide +kernel))
  | ((with_reducible refine' w_isiY ?wh ?wk ?_); (case wh => first | exact .int _ | exact .str _ | exact .lst (by assumption) | exact .tup (by assumption)); (case wk => decide +kernel))
  | ((with_reducible refine' w_isiN ?wh ?wk ?_); (case wh => first | exact .int _ | exact .str _ | exact .lst (by assumption) | exact .tup (by assumption)); (case wk => decide +kernel))
  | ((with_reducible refine' w_ifF ?wh ?_); (case wh => (intro z; cases z; done)))
  | ((with_reducible refine' w_setl ?wh ?we ?wl ?_); (case wh => first | assumption | exact upd_same); (case we => rfl); (case wl => rfl))
  | ((with_reducible refine' w_methA ?wh ?wl ?_); (case wh => first | assumption | exact upd_same); (case wl => walk_at "lk"))
  | ((with_reducible refine' w_sfldB ?wc ?wn ?wz ?wl ?_); (case wc => assumption); (case wn => assumption); (case wz => simp); (case wl => walk_at "pf"))
  | ((with_reducible refine' w_sfldA ?wh ?wc ?wn ?wz ?wl ?_); (case wh => assumption); (case wc => assumption); (case wn => assumption); (case wz => simp); (case wl => walk_at "pf")))
local macro_rules | `(tactic| walk_at "w") => `(tactic| repeat (first | walk_at "w1" | walk_at "w2" | (dsimp only [List.set, setAll, List.append, List.cons_append, List.nil_append])))
section
variable {K : PySem.W.Frag}
def spLawPlaces (K : PySem.W.Frag) : Sp := fun vs H Q _ => ∃ r p m, vs = [.ref r, .int p, .int m] ∧ 1 ≤ p ∧ p ≤ 1000000 ∧ 0 ≤ m ∧ m ≤ 1000 ∧ RowAt K H r ∧
  ∀ (H' : Hp) (q : Addr) (ls : List Int), (ls.length : Int) ≤ m → (∀ x, x ∈ ls → 0 ≤ x ∧ x < p) → H q = none → H' q = some (.lst (ls.map V.int)) → RowAt K H' r → Out (Is r) H H' → Q (.ref q) H'
def t_law_places (K : PySem.W.Frag) (sp_law_taken : Sp) : TS := tSeq (tAsg (tLst (tNil)) (gName 3))
  (tSeq (tAsg (tCall sp_law_taken [] E0 (tCons (tVar 0) (tCons (tVar 1) (tNil)))) (gName 4))
  (tSeq (tAsg (tOp (rSubI) (tCall sp_law_taken [] E0 (tCons (tVar 0) (tCons (tC (.int 7)) (tNil)))) (tC (.int 3))) (gName 5))
  (tSeq (tFor (iRng1 (tCons (tCall sp_law_taken [] E0 (tCons (tVar 0) (tCons (tOp (rAddI) (tVar 2) (tC (.int 1))) (tNil)))) (tNil))) (gName 6) (tSeq (tAsg (tCall sp_law_taken [] E0 (tCons (tVar 0) (tCons (tC (.int 8)) (tNil)))) (gName 7))
  (tSeq (tIfS (tTest (tOp (rEq) (tVar 7) (tC (.int 7)))) (tAsg (tCall sp_law_taken [] E0 (tCons (tVar 0) (tCons (tVar 1) (tNil)))) (gName 4)) (tNext))
  (tSeq (tIfS (tTest (tOp (rEq) (tVar 7) (tC (.int 6)))) (tAsg (tOp (rSubI) (tCall sp_law_taken [] E0 (tCons (tVar 0) (tCons (tC (.int 7)) (tNil)))) (tC (.int 3))) (gName 5)) (tNext))
  (tSeq (tIfS (tAnd (tTest (tOp (rEq) (tVar 7) (tC (.int 5)))) (tTest (tOp (rNeD K) (tVar 3) (tLst (tNil))))) (tAsg (tOp (rIxL K) (tVar 3) (tCall sp_law_taken [] E0 (tCons (tVar 0) (tCons (tCB (rLenQ K) (tCons (tVar 3) (tNil))) (tNil))))) (gName 4)) (tNext))
  (tSeq (tDrop (tBM K "list" rAppend (tVar 3) (tCons (tVar 4) (tNil))))
  (tAsg (tOp (rModI) (tOp (rAddI) (tVar 4) (tVar 5)) (tVar 1)) (gName 4))))))))
  (tRet (tVar 3)))))
theorem at_int {ls : List Int} {n : Int} (h0 : 0 ≤ n) (h1 : n < (ls.length : Int)) : ∃ v, v ∈ ls ∧ atI (ls.map V.int) n = some (.int v) := by
  have hj : n.toNat < ls.length := by omega
  refine ⟨ls[n.toNat], List.getElem_mem hj, ?_⟩
  have e : n = ((n.toNat : Nat) : Int) := by omega
  have q := atI_nat (xs := ls.map V.int) (j := n.toNat) (v := .int ls[n.toNat]) (by rw [List.getElem?_map, List.getElem?_eq_getElem hj]; rfl)
  rw [← e] at q
  exact q
/-- data of ints -/
theorem dp_ints {H : Hp} {a : Addr} {ls : List Int} (h : SqL K H a (ls.map V.int)) : Dp K H (.ref a) (.list (ls.map PyData.int)) := .lst h (dpAll ls)
where
  dpAll {H : Hp} : ∀ ls : List Int, DpAll K H (ls.map V.int) (ls.map PyData.int)
  | [] => .nil
  | x :: r => .cons (.int x) (dpAll r)
theorem shaped_ints (ls : List Int) : SeqAt.shaped (.list (ls.map PyData.int)) = true := by
  have h1 : ∀ ls : List Int, PyData.canLayAll0 (ls.map PyData.int) = true := by
    intro ls
    induction ls with
    | nil => rfl
    | cons x r ih =>
      show (PyData.canLay0 (.int x) && PyData.canLayAll0 (r.map PyData.int)) = true
      rw [ih]
      rfl
  unfold SeqAt.shaped
  rw [Bool.and_eq_true]
  refine ⟨?_, decide_eq_true ?_⟩
  · show PyData.canLayAll0 (ls.map PyData.int) = true
    exact h1 ls
  · show (PyData.list (ls.map PyData.int)).depth ≤ 64
    have h2 : ∀ ls : List Int, PyData.depthAll (ls.map PyData.int) ≤ 1 := by
      intro ls
      induction ls with
      | nil => exact Nat.zero_le _
      | cons x r ih =>
        show max (PyData.depth (.int x)) (PyData.depthAll (r.map PyData.int)) ≤ 1
        have : PyData.depth (.int x) ≤ 1 := Nat.zero_le _
        omega
    have := h2 ls
    show PyData.depthAll (ls.map PyData.int) + 1 ≤ 64
    omega
theorem places_turn {D : Ends} {r q : Addr} {p m here far : Int} {kv wv : Option V} {ls : List Int} {H4 H' : Hp} (hp1 : 1 ≤ p) (nq : q ≠ r) (hz : ls.length ≤ 100000) (hx : ∀ x, x ∈ ls → 0 ≤ x ∧ x < p) (h0 : 0 ≤ here) (h1 : here < p) (hq : H' q = some (.lst (ls.map V.int))) (row : RowAt K H' r) (o : Out (fun b => b = r ∨ b = q) H4 H')
    (hn : ∀ (ls' : List Int) (here far : Int) (wv : Option V) (H' : Hp), ls'.length = ls.length + 1 → (∀ x, x ∈ ls' → 0 ≤ x ∧ x < p) → 0 ≤ here → here < p → H' q = some (.lst (ls'.map V.int)) → RowAt K H' r → Out (fun b => b = r ∨ b = q) H4 H' → D.nx [some (.ref r), some (.int p), some (.int m), some (.ref q), some (.int here), some (.int far), kv, wv] H') :
    (tSeq (tAsg (tCall (spTaken K) [] E0 (tCons (tVar 0) (tCons (tC (.int 8)) (tNil)))) (gName 7))
  (tSeq (tIfS (tTest (tOp (rEq) (tVar 7) (tC (.int 7)))) (tAsg (tCall (spTaken K) [] E0 (tCons (tVar 0) (tCons (tVar 1) (tNil)))) (gName 4)) (tNext))
  (tSeq (tIfS (tTest (tOp (rEq) (tVar 7) (tC (.int 6)))) (tAsg (tOp (rSubI) (tCall (spTaken K) [] E0 (tCons (tVar 0) (tCons (tC (.int 7)) (tNil)))) (tC (.int 3))) (gName 5)) (tNext))
  (tSeq (tIfS (tAnd (tTest (tOp (rEq) (tVar 7) (tC (.int 5)))) (tTest (tOp (rNeD K) (tVar 3) (tLst (tNil))))) (tAsg (tOp (rIxL K) (tVar 3) (tCall (spTaken K) [] E0 (tCons (tVar 0) (tCons (tCB (rLenQ K) (tCons (tVar 3) (tNil))) (tNil))))) (gName 4)) (tNext))
  (tSeq (tDrop (tBM K "list" rAppend (tVar 3) (tCons (tVar 4) (tNil))))
  (tAsg (tOp (rModI) (tOp (rAddI) (tVar 4) (tVar 5)) (tVar 1)) (gName 4))))))) D [some (.ref r), some (.int p), some (.int m), some (.ref q), some (.int here), some (.int far), kv, wv] H' := by
  have up : ∀ {H H' : Hp}, Out (Is r) H H' → Out (fun b => b = r ∨ b = q) H H' := fun e => e.mono fun b z => .inl z
  -- append, the next place
  have T4 : ∀ (here far : Int) (wv : Option V) (H' : Hp), 0 ≤ here → here < p → H' q = some (.lst (ls.map V.int)) → RowAt K H' r → Out (fun b => b = r ∨ b = q) H4 H' →
      (tSeq (tDrop (tBM K "list" rAppend (tVar 3) (tCons (tVar 4) (tNil))))
  (tAsg (tOp (rModI) (tOp (rAddI) (tVar 4) (tVar 5)) (tVar 1)) (gName 4))) D [some (.ref r), some (.int p), some (.int m), some (.ref q), some (.int here), some (.int far), kv, wv] H' := by
    intro here far wv H' h0 h1 hq row o
    walk_at "w"
    refine ⟨.inl ⟨rfl, _, SqL.of hq⟩, ?_⟩
    walk_at "w"
    refine w_app hq (small_lt (by rw [List.length_map]; omega)) ?_
    walk_at "w"
    refine w_i (by omega) ?_
    walk_at "w"
    refine hn (ls ++ [here]) _ _ _ _ (by simp) (fun x h => ?_) (Int.emod_nonneg _ (by omega)) (Int.emod_lt_of_pos _ (by omega)) (by rw [upd_same, List.map_append]; rfl) ?_ (fun b u hb nb => by rw [upd_ne (fun z => nb (.inr z))]; exact o b u hb nb)
    · rcases List.mem_append.mp h with z | z
      · exact hx x z
      · rw [List.mem_singleton.mp z]
        exact ⟨h0, h1⟩
    · exact row_put row hq nq
  have T3 : ∀ (way here far : Int) (H' : Hp), 0 ≤ here → here < p → H' q = some (.lst (ls.map V.int)) → RowAt K H' r → Out (fun b => b = r ∨ b = q) H4 H' →
      (tSeq (tIfS (tAnd (tTest (tOp (rEq) (tVar 7) (tC (.int 5)))) (tTest (tOp (rNeD K) (tVar 3) (tLst (tNil))))) (tAsg (tOp (rIxL K) (tVar 3) (tCall (spTaken K) [] E0 (tCons (tVar 0) (tCons (tCB (rLenQ K) (tCons (tVar 3) (tNil))) (tNil))))) (gName 4)) (tNext))
  (tSeq (tDrop (tBM K "list" rAppend (tVar 3) (tCons (tVar 4) (tNil))))
  (tAsg (tOp (rModI) (tOp (rAddI) (tVar 4) (tVar 5)) (tVar 1)) (gName 4)))) D [some (.ref r), some (.int p), some (.int m), some (.ref q), some (.int here), some (.int far), kv, some (.int way)] H' := by
    intro way here far H' h0 h1 hq row o
    refine w_seq (w_if (w_and (w_test (w_op ?_))))
    walk_at "w2"
    refine w_c ?_
    walk_at "w2"
    refine w_bl ?_
    refine w_if2 (fun c => ?_) (fun c => w_iff (w_next (T4 here far _ H' h0 h1 hq row o)))
    walk_at "w"
    refine ⟨by decide, w_new fun z H2 hz2 e2 hq2 => ?_⟩
    refine ⟨_, _, dp_ints (SqL.of (e2 _ _ hq)), .lst (SqL.of hq2) .nil, shaped_ints ls, by decide, ?_⟩
    refine w_bl ?_
    have row2 := row_same e2 row
    have o2 : Out (fun b => b = r ∨ b = q) H4 H2 := o.trans (same_out e2)
    cases ls with
    | nil =>
      have e : PyData.eqv (.list (List.map PyData.int [])) (.list []) = true := by decide
      rw [e]
      refine w_iff ?_
      exact w_next (T4 here far _ H2 h0 h1 (e2 _ _ hq) row2 o2)
    | cons a l =>
      have e : PyData.eqv (.list (List.map PyData.int (a :: l))) (.list []) = false := by rfl
      rw [e]
      refine w_ift ?_
      walk_at "w"
      refine w_len (.inl (SqL.of (e2 _ _ hq))) ?_
      walk_at "w"
      rw [List.length_map]
      refine ⟨r, _, rfl, (by have e9 : (a :: l).length = l.length + 1 := rfl; omega), row2, fun H3 w w0 w1 row3 o3 => ?_⟩
      have hq3 := o3 _ _ (e2 _ _ hq) nq
      obtain ⟨v, hv, hat⟩ := at_int w0 w1
      refine w_ixl (SqL.of hq3) hat ?_
      refine w_name ?_
      dsimp only [List.set]
      exact T4 v far _ H3 (hx v hv).1 (hx v hv).2 hq3 row3 (o2.trans (up o3))
  have T2 : ∀ (way here far : Int) (H' : Hp), 0 ≤ here → here < p → H' q = some (.lst (ls.map V.int)) → RowAt K H' r → Out (fun b => b = r ∨ b = q) H4 H' →
      (tSeq (tIfS (tTest (tOp (rEq) (tVar 7) (tC (.int 6)))) (tAsg (tOp (rSubI) (tCall (spTaken K) [] E0 (tCons (tVar 0) (tCons (tC (.int 7)) (tNil)))) (tC (.int 3))) (gName 5)) (tNext))
  (tSeq (tIfS (tAnd (tTest (tOp (rEq) (tVar 7) (tC (.int 5)))) (tTest (tOp (rNeD K) (tVar 3) (tLst (tNil))))) (tAsg (tOp (rIxL K) (tVar 3) (tCall (spTaken K) [] E0 (tCons (tVar 0) (tCons (tCB (rLenQ K) (tCons (tVar 3) (tNil))) (tNil))))) (gName 4)) (tNext))
  (tSeq (tDrop (tBM K "list" rAppend (tVar 3) (tCons (tVar 4) (tNil))))
  (tAsg (tOp (rModI) (tOp (rAddI) (tVar 4) (tVar 5)) (tVar 1)) (gName 4))))) D [some (.ref r), some (.int p), some (.int m), some (.ref q), some (.int here), some (.int far), kv, some (.int way)] H' := by
    intro way here far H' h0 h1 hq row o
    refine w_seq (w_if (w_test (w_op ?_)))
    walk_at "w2"
    refine w_c ?_
    walk_at "w2"
    refine w_bl ?_
    refine w_if2 (fun c => ?_) (fun c => w_next (T3 way here far H' h0 h1 hq row o))
    refine w_asg (w_op (w_call ?_))
    walk_at "w"
    refine ⟨r, 7, rfl, by decide, row, fun H3 w w0 w1 row3 o3 => ?_⟩
    refine w_c (w_i0 (w_name ?_))
    dsimp only [List.set]
    exact T3 way here _ H3 h0 h1 (o3 _ _ hq nq) row3 (o.trans (up o3))
  have T1 : ∀ (way here far : Int) (H' : Hp), 0 ≤ here → here < p → H' q = some (.lst (ls.map V.int)) → RowAt K H' r → Out (fun b => b = r ∨ b = q) H4 H' →
      (tSeq (tIfS (tTest (tOp (rEq) (tVar 7) (tC (.int 7)))) (tAsg (tCall (spTaken K) [] E0 (tCons (tVar 0) (tCons (tVar 1) (tNil)))) (gName 4)) (tNext))
  (tSeq (tIfS (tTest (tOp (rEq) (tVar 7) (tC (.int 6)))) (tAsg (tOp (rSubI) (tCall (spTaken K) [] E0 (tCons (tVar 0) (tCons (tC (.int 7)) (tNil)))) (tC (.int 3))) (gName 5)) (tNext))
  (tSeq (tIfS (tAnd (tTest (tOp (rEq) (tVar 7) (tC (.int 5)))) (tTest (tOp (rNeD K) (tVar 3) (tLst (tNil))))) (tAsg (tOp (rIxL K) (tVar 3) (tCall (spTaken K) [] E0 (tCons (tVar 0) (tCons (tCB (rLenQ K) (tCons (tVar 3) (tNil))) (tNil))))) (gName 4)) (tNext))
  (tSeq (tDrop (tBM K "list" rAppend (tVar 3) (tCons (tVar 4) (tNil))))
  (tAsg (tOp (rModI) (tOp (rAddI) (tVar 4) (tVar 5)) (tVar 1)) (gName 4)))))) D [some (.ref r), some (.int p), some (.int m), some (.ref q), some (.int here), some (.int far), kv, some (.int way)] H' := by
    intro way here far H' h0 h1 hq row o
    refine w_seq (w_if (w_test (w_op ?_)))
    walk_at "w2"
    refine w_c ?_
    walk_at "w2"
    refine w_bl ?_
    refine w_if2 (fun c => ?_) (fun c => w_next (T2 way here far H' h0 h1 hq row o))
    refine w_asg (w_call ?_)
    walk_at "w"
    refine ⟨r, p, rfl, hp1, row, fun H3 w w0 w1 row3 o3 => ?_⟩
    refine w_name ?_
    dsimp only [List.set]
    exact T2 way w far H3 w0 w1 (o3 _ _ hq nq) row3 (o.trans (up o3))
  refine w_seq (w_asg (w_call ?_))
  walk_at "w"
  refine ⟨r, 8, rfl, by decide, row, fun H3 w w0 w1 row3 o3 => ?_⟩
  refine w_name ?_
  dsimp only [List.set]
  exact T1 w here far H3 h0 h1 (o3 _ _ hq nq) row3 (o.trans (up o3))
theorem pu_law_places {vs : List V} {H : Hp} {Q : VK} {E : XK} (h : spLawPlaces K vs H Q E) : t_law_places K (spTaken K) (B Q) (start ["_law_row", "_law_places_here", "_law_most", "_law_found", "_law_here", "_law_far", "_law_k", "_law_way"] vs) H := by
  obtain ⟨r, p, m, rfl, hp1, hp2, hm0, hm1, row, k⟩ := h
  unfold t_law_places
  walk_at "w"
  refine ⟨by decide, w_new fun q H1 hq e1 h1 => ?_⟩
  have nq : q ≠ r := row_new row hq
  walk_at "w"
  refine ⟨r, p, rfl, hp1, row_same e1 row, fun H2 here hr0 hr1 row2 o2 => ?_⟩
  have h2 := o2 _ _ h1 nq
  walk_at "w"
  refine ⟨r, 7, rfl, by decide, row2, fun H3 far hf0 hf1 row3 o3 => ?_⟩
  have h3 := o3 _ _ h2 nq
  walk_at "w"
  refine ⟨r, m + 1, rfl, by omega, row3, fun H4 many hn0 hn1 row4 o4 => ?_⟩
  have h4 := o4 _ _ h3 nq
  have o04 : Out (Is r) H H4 := (same_out e1).trans (o2.trans (o3.trans o4))
  walk_at "w"
  refine w_forr1 (fun i σ H' => ∃ (ls : List Int) (here far : Int) (k7 w7 : Option V), σ = [some (.ref r), some (.int p), some (.int m), some (.ref q), some (.int here), some (.int far), k7, w7] ∧ ls.length = i ∧ (∀ x, x ∈ ls → 0 ≤ x ∧ x < p) ∧ 0 ≤ here ∧ here < p ∧ H' q = some (.lst (ls.map V.int)) ∧ RowAt K H' r ∧ Out (fun b => b = r ∨ b = q) H4 H')
    (by omega) ⟨[], here, far - 3, none, none, rfl, rfl, fun x hx => by simp at hx, hr0, hr1, h4, row4, Out.refl⟩ (fun i σ H' hi w => ?_) (fun σ H' w => ?_)
  · obtain ⟨ls, here, far, k7, w7, rfl, hl, hx, h0, h1', hq', row', o'⟩ := w
    refine w_name ?_
    dsimp only [List.set]
    exact places_turn hp1 nq (by omega) hx h0 h1' hq' row' o' (fun ls' here far wv H'' e1 e2 e3 e4 e5 e6 e7 => ⟨ls', here, far, _, _, rfl, by omega, e2, e3, e4, e5, e6, e7⟩)
  · obtain ⟨ls, here, far, k7, w7, rfl, hl, hx, h0, h1', hq', row', o'⟩ := w
    walk_at "w"
    refine k H' q ls (by omega) hx hq hq' row' (fun b o hb nb => ?_)
    refine o' b o (o04 b o hb nb) ?_
    rintro (z | z)
    · exact nb z
    · rw [z, hq] at hb
      cases hb
end
end SwD
set_option Elab.async false
set_option linter.all false
set_option maxRecDepth 100000
set_option maxHeartbeats 4000000
namespace SwD
open PySem PySem.Spec PyProof.Rows L2 SwX StX Sw
local macro_rules | `(tactic| walk_at "lk") => `(tactic| first | exact lk_at | exact lk_no | ((refine' lk_by (by decide +kernel) ?wq); (case wq => walk_at "lk")))
local macro_rules | `(tactic| walk_at "pf") => `(tactic| first | exact pf_at | exact pf_nil | ((refine' pf_by (by decide +kernel) ?wq); (case wq => walk_at "pf")))
local macro_rules | `(tactic| walk_at "w1") => `(tactic| with_reducible first
  | refine w_seq ?_ | refine w_asg ?_ | refine w_name ?_ | refine w_ret ?_ | refine w_retN ?_ | refine w_drop ?_ | refine w_next ?_ | refine w_if ?_ | refine w_ifE ?_ | refine w_test ?_ | refine w_B ?_ | refine w_bl ?_
  | refine w_not ?_ | refine w_and ?_ | refine w_or ?_ | refine w_andV ?_ | refine w_orV ?_ | refine w_notV ?_ | refine w_isN ?_ | refine w_notN ?_ | refine w_yes ?_
  | refine w_c ?_ | refine w_op ?_ | refine w_un ?_ | refine w_i0 ?_ | refine w_neg ?_ | refine w_nil ?_ | refine w_cons ?_ | refine w_cb ?_ | refine w_call ?_ | refine w_tup ?_ | refine w_lst ?_
  | refine w_fld ?_ | refine w_sfld ?_ | refine w_match ?_ | refine w_case ?_ | refine w_mcons ?_ | refine w_mnil ?_ | refine w_mcap ?_ | refine w_many ?_ | refine w_myes ?_
  | refine w_sub ?_ | refine w_bm ?_ | refine w_sl ?_ | refine w_nopart ?_ | refine w_part ?_ | refine w_int ?_ | refine w_ift ?_ | refine w_iff ?_ | refine w_ifn ?_ | refine w_dget2 ?_ | refine w_star ?_ | refine w_dput ?_ | refine w_dnewK ?_ | refine w_meth ?_ | refine w_oneOf ?_ | refine w_make ?_ | refine w_lc ?_ | refine w_for ?_ | refine w_ilist ?_ | refine w_irng1 ?_ | refine w_irng2 ?_ | refine w_irng3 ?_)
local macro_rules | `(tactic| walk_at "w2") => `(tactic| first
  | ((with_reducible refine' w_var ?wh ?_); (case wh => rfl))
  | ((with_reducible refine' w_eq ?wh ?_); (case wh => rfl))
  | ((with_reducible refine' w_ne ?wh ?_); (case wh => rfl))
  | ((with_reducible refine' w_mno ?wh ?_); (case wh => decide +kernel))
  | ((with_reducible refine' w_mhit ?wh ?wl ?_); (case wh => assumption); (case wl => rfl))
  | ((with_reducible refine' w_mmiss ?wh ?wl ?_); (case wh => assumption); (case wl => simp))
  | ((with_reducible refine' w_fldA ?wh ?wc ?wn ?wl ?_); (case wh => first | assumption | exact upd_same); (case wc => assumption); (case wn => assumption); (case wl => walk_at "lk"))
  | ((with_reducible refine' w_ixl ?wh ?we ?_); (case wh => exact SqL.of (by first | assumption | exact upd_same)); (case we => rfl))
  | ((with_reducible refine' w_ixt ?wh ?we ?_); (case wh => assumption); (case we => rfl))
  | ((with_reducible refine' w_ifT ?wh ?_); (case wh => (with_reducible exact Eq.refl _)))
  | ((with_reducible refine' w_ifF ?wh ?_); (case wh => decide +kernel))
  | ((with_reducible refine' w_isiY ?wh ?wk ?_); (case wh => first | exact .int _ | exact .str _ | exact .lst (by assumption) | exact .tup (by assumption)); (case wk => decide +kernel))
  | ((with_reducible refine' w_isiN ?wh ?wk ?_); (case wh => first | exact .int _ | exact .str _ | exact .lst (by assumption) | exact .tup (by assumption)); (case wk => decide +kernel))
  | ((with_reducible refine' w_ifF ?wh ?_); (case wh => (intro z; cases z; done)))
  | ((with_reducible refine' w_setl ?wh ?we ?wl ?_); (case wh => first | assumption | exact upd_same); (case we => rfl); (case wl => rfl))
  | ((with_reducible refine' w_methA ?wh ?wl ?_); (case wh => first | assumption | exact upd_same); (case wl => walk_at "lk"))
  | ((with_reducible refine' w_sfldB ?wc ?wn ?wz ?wl ?_); (case wc => assumption); (case wn => assumption); (case wz => simp); (case wl => walk_at "pf"))
  | ((with_reducible refine' w_sfldA ?wh ?wc ?wn ?wz ?wl ?_); (case wh => assumption); (case wc => assumption); (case wn => assumption); (case wz => simp); (case wl => walk_at "pf")))
local macro_rules | `(tactic| walk_at "w") => `(tactic| repeat (first | walk_at "w1" | walk_at "w2" | (dsimp only [List.set, setAll, List.append, List.cons_append, List.nil_append])))
section
variable {K : PySem.W.Frag}
def spLawGuessed (K : PySem.W.Frag) (n : Nat) : Sp := fun vs H Q _ => ∃ (a l : Addr) (g : G) (ls : List Int), vs = [.ref a, .ref l] ∧ GTup H g a ∧ g.ok ∧ g.depth < n ∧ H l = some (.lst (ls.map V.int)) ∧ ls ≠ [] ∧ ls.length ≤ 1000 ∧
  ∀ H' q, Same H H' → H q = none → H' q = some (.lst ((looked g ls.reverse).map V.int)) → Q (.ref q) H'
def t_law_guessed (K : PySem.W.Frag) (sp_law_guessed : Sp) : TS := tSeq (tAsg (tOp (rIxL K) (tVar 1) (tUn rNegI (tC (.int 1)))) (gName 2))
  (tSeq (tIfS (tTest (tOp (rEq) (tOp (rIxT K) (tVar 0) (tC (.int 0))) (tC (.str "both")))) (tSeq (tAsg (tCall sp_law_guessed [] E0 (tCons (tOp (rIxT K) (tVar 0) (tC (.int 1))) (tCons (tVar 1) (tNil)))) (gName 3))
  (tRet (tOp (rCat) (tVar 3) (tLc (iList K (tCall sp_law_guessed [] E0 (tCons (tOp (rIxT K) (tVar 0) (tC (.int 2))) (tCons (tVar 1) (tNil))))) (gName 8) (tTest (tOp (rIn K true) (tVar 8) (tVar 3))) (tVar 8) [8])))) (tNext))
  (tSeq (tIfS (tTest (tOp (rEq) (tOp (rIxT K) (tVar 0) (tC (.int 0))) (tC (.str "next")))) (tRet (tSl (rSlL K) (tLst (tCons (tOp (rAddI) (tVar 2) (tC (.int 1))) (tCons (tOp (rAddI) (tVar 2) (tC (.int 2))) (tCons (tOp (rAddI) (tVar 2) (tC (.int 3))) (tNil))))) (tNoPart) (tPart (tOp (rIxT K) (tVar 0) (tC (.int 1)))))) (tNext))
  (tSeq (tIfS (tTest (tOp (rEq) (tOp (rIxT K) (tVar 0) (tC (.int 0))) (tC (.str "stride")))) (tSeq (tAsg (tLc (iRng2 (tCons (tC (.int 1)) (tCons (tCB (rLenQ K) (tCons (tVar 1) (tNil))) (tNil)))) (gName 7) (tYes) (tOp (rSubI) (tOp (rIxL K) (tVar 1) (tVar 7)) (tOp (rIxL K) (tVar 1) (tOp (rSubI) (tVar 7) (tC (.int 1))))) [7]) (gName 4))
  (tSeq (tAsg (tSl (rSlL K) (tVar 4) (tPart (tCB (rMax2I) (tCons (tC (.int 0)) (tCons (tOp (rSubI) (tCB (rLenQ K) (tCons (tVar 4) (tNil))) (tOp (rIxT K) (tVar 0) (tC (.int 1)))) (tNil))))) (tNoPart)) (gName 5))
  (tSeq (tIfS (tOr (tTest (tOp (rLtI) (tCB (rLenQ K) (tCons (tVar 5) (tNil))) (tOp (rIxT K) (tVar 0) (tC (.int 1))))) (tOr (tTest (tOp (rNeD K) (tVar 5) (tOp (rRep) (tLst (tCons (tOp (rIxL K) (tVar 5) (tC (.int 0))) (tNil))) (tCB (rLenQ K) (tCons (tVar 5) (tNil)))))) (tTest (tOp (rEq) (tOp (rIxL K) (tVar 5) (tC (.int 0))) (tC (.int 0)))))) (tRet (tLst (tNil))) (tNext))
  (tRet (tLst (tCons (tOp (rAddI) (tVar 2) (tOp (rIxL K) (tVar 5) (tC (.int 0)))) (tNil))))))) (tNext))
  (tSeq (tIfS (tTest (tOp (rEq) (tOp (rIxT K) (tVar 0) (tC (.int 0))) (tC (.str "none")))) (tRet (tLst (tNil))) (tNext))
  (tSeq (tAsg (tLst (tNil)) (gName 6))
  (tSeq (tFor (iRng3 (tCons (tOp (rSubI) (tCB (rLenQ K) (tCons (tVar 1) (tNil))) (tC (.int 1))) (tCons (tC (.int 0)) (tCons (tUn rNegI (tC (.int 1))) (tNil))))) (gName 7) (tIfS (tAnd (tTest (tOp (rEq) (tOp (rIxL K) (tVar 1) (tOp (rSubI) (tVar 7) (tC (.int 1)))) (tVar 2))) (tTest (tOp (rIn K true) (tOp (rIxL K) (tVar 1) (tVar 7)) (tVar 6)))) (tDrop (tBM K "list" rAppend (tVar 6) (tCons (tOp (rIxL K) (tVar 1) (tVar 7)) (tNil)))) (tNext)))
  (tRet (tSl (rSlL K) (tVar 6) (tNoPart) (tPart (tOp (rIxT K) (tVar 0) (tC (.int 1))))))))))))
theorem nexts_cut {p m : Int} (h0 : 1 ≤ m) (h1 : m ≤ 3) : cutV [V.int (p + 1), V.int (p + 2), V.int (p + 3)] none (some m) = (nexts p m).map V.int := by
  rw [cut_take _ (by omega)]
  have hm : m = 1 ∨ m = 2 ∨ m = 3 := by omega
  rcases hm with rfl | rfl | rfl <;> rfl
theorem cut_drop (xs : List V) {j : Int} (h : 0 ≤ j) : cutV xs (some j) none = xs.drop j.toNat := by
  unfold cutV
  have e : j = ((j.toNat : Nat) : Int) := by omega
  rw [HT.sIx_none, e, HT.sIx_nat, Int.toNat_natCast]
  by_cases c : j.toNat ≤ xs.length
  · rw [Nat.min_eq_left c, List.take_of_length_le (by rw [List.length_drop]; omega)]
  · rw [Nat.min_eq_right (by omega), List.drop_eq_nil_of_le (Nat.le_refl _), List.drop_eq_nil_of_le (by omega), List.take_nil]
def stepV (L : List Int) : V → V
  | .int k => .int (L.getD k.toNat 0 - L.getD (k - 1).toNat 0)
  | _ => .non
theorem strides_added (L : List Int) : added (fun _ => true) (stepV L) (rangeV 1 ((L.length : Int) - 1).toNat) = ((strides L.reverse).reverse).map V.int := by
  rw [← fstr_rev, ← fstr_range, added_all]
  unfold rangeV
  rw [List.map_map, List.map_map, show ((L.length : Int) - 1).toNat = L.length - 1 by omega]
  apply List.map_congr_left
  intro i _
  show V.int _ = V.int _
  congr 2
  rw [show (1 + (i : Int) - 1).toNat = i by omega]
theorem eqv_ints : ∀ xs ys : List Int, PyData.eqv (.list (xs.map PyData.int)) (.list (ys.map PyData.int)) = decide (xs = ys)
  | [], [] => rfl
  | [], _ :: _ => rfl
  | _ :: _, [] => rfl
  | x :: xs, y :: ys => by
    have ih := eqv_ints xs ys
    unfold PyData.eqv at ih ⊢
    rw [List.map_cons, List.map_cons]
    unfold PyData.eqvAll
    rw [ih]
    unfold PyData.eqv
    rw [Bool.eq_iff_iff, Bool.and_eq_true, decide_eq_true_iff, decide_eq_true_iff, beq_iff_eq]
    constructor
    · rintro ⟨h1, h2⟩
      rw [h1, h2]
    · intro h
      exact ⟨(List.cons.inj h).1, (List.cons.inj h).2⟩
theorem rep_ints (n : Nat) (x : Int) : (List.replicate n [V.int x]).flatten = (List.replicate n x).map V.int := by
  rw [List.map_replicate]
  induction n with
  | zero => rfl
  | succ n ih =>
    rw [List.replicate_succ, List.flatten_cons, ih]
    rfl
theorem pu_law_guessed {vs : List V} {H : Hp} {Q : VK} {E : XK} {n : Nat} (hn0 : n ≤ 10) (h : spLawGuessed K (n + 1) vs H Q E) : t_law_guessed K (spLawGuessed K n) (B Q) (start ["_law_guesser_here", "_law_places_here", "_law_here", "_law_one", "_law_strides", "_law_some", "_law_found", "_law_k", "_law_place"] vs) H := by
  obtain ⟨a, l, g, ls, rfl, hg, ok, hn, hl, hne, hz, k⟩ := h
  obtain ⟨pre, p, rfl⟩ : ∃ pre p, ls = pre ++ [p] := ⟨ls.dropLast, ls.getLast hne, (List.dropLast_concat_getLast hne).symm⟩
  have hrev : (pre ++ [p]).reverse = p :: pre.reverse := by simp
  rw [hrev] at k
  have hlast : atI ((pre ++ [p]).map V.int) (-1) = some (.int p) := by
    rw [List.map_append]
    exact atI_last _ _
  unfold t_law_guessed
  walk_at "w"
  refine w_ixl (SqL.of hl) hlast ?_
  cases g with
  | non =>
    have hs : SqT K H a [.str "none"] := .of hg
    walk_at "w"
    refine ⟨by decide, w_new fun q H1 hq e1 h1 => ?_⟩
    exact k _ q e1 hq h1
  | next m =>
    have hs : SqT K H a [.str "next", .int m] := .of hg
    walk_at "w"
    refine ⟨small_le (by simp), w_new fun q H1 hq e1 h1 => ?_⟩
    have hs1 : SqT K H1 a [.str "next", .int m] := .of (e1 _ _ hg)
    walk_at "w"
    refine w_sll (SqL.of h1) (w_new fun q2 H2 hq2 e2 h2 => ?_)
    rw [nexts_cut ok.1 ok.2] at h2
    exact k _ q2 (e1.trans e2) (e1.free hq2) h2
  | stride m =>
    have hs : SqT K H a [.str "stride", .int m] := .of hg
    have m1 : 1 ≤ m := ok.1
    have m3 : m ≤ 3 := ok.2
    walk_at "w"
    refine w_len (.inl (SqL.of hl)) ?_
    rw [List.length_map]
    walk_at "w"
    refine w_lcr2 (fun _ => true) (stepV (pre ++ [p])) (by decide) (by omega) (fun _ => rfl) (fun i hi H' s R r => w_yes (r _ (Same.refl _))) (fun i hi _ H' s R r => ?_) (fun q1 H1 hq1 e1 h1 => ?_)
    · refine w_op (w_op ?_)
      walk_at "w2"
      walk_at "w2"
      refine w_ixl (SqL.of (s _ _ hl)) (at_getD (by omega) hi) ?_
      refine w_op ?_
      walk_at "w2"
      refine w_op ?_
      walk_at "w2"
      refine w_c (w_i0 ?_)
      refine w_ixl (SqL.of (s _ _ hl)) (at_getD (by omega) (by omega)) (w_i0 ?_)
      exact r _ (Same.refl _)
    rw [strides_added, hrev] at h1
    generalize hR : strides (p :: pre.reverse) = R at h1
    have hs1 : SqT K H1 a [.str "stride", .int m] := .of (e1 _ _ hg)
    walk_at "w"
    refine w_len (.inl (SqL.of h1)) ?_
    rw [List.length_map, List.length_reverse]
    walk_at "w"
    refine w_max2 ?_
    walk_at "w"
    refine w_sll (SqL.of h1) (w_new fun q2 H2 hq2 e2 h2 => ?_)
    have hcut : cutV (R.reverse.map V.int) (some (if (R.length : Int) - m > 0 then (R.length : Int) - m else 0)) none = ((R.take m.toNat).reverse).map V.int := by
      rw [← last_some, List.map_drop]
      by_cases c : (R.length : Int) - m > 0
      · rw [if_pos c, cut_drop _ (by omega), show ((R.length : Int) - m).toNat = R.length - m.toNat by omega]
      · rw [if_neg c, cut_drop _ (by omega), show (0 : Int).toNat = R.length - m.toNat by omega]
    rw [hcut] at h2
    have hs2 : SqT K H2 a [.str "stride", .int m] := .of (e2 _ _ (e1 _ _ hg))
    have e02 := e1.trans e2
    have hlk : looked (.stride m) (p :: pre.reverse) = if m.toNat ≤ R.length ∧ R.take m.toNat = List.replicate m.toNat (R.headD 0) ∧ R.headD 0 ≠ 0 then [p + R.headD 0] else [] := by rw [← hR]; rfl
    have none_ : ∀ (q : Addr) (H' : Hp), Same H H' → H q = none → H' q = some (.lst []) → ¬ (m.toNat ≤ R.length ∧ R.take m.toNat = List.replicate m.toNat (R.headD 0) ∧ R.headD 0 ≠ 0) → Q (.ref q) H' := fun q H' e f h c => k H' q e f (by rw [hlk, if_neg c]; exact h)
    walk_at "w"
    refine w_len (.inl (SqL.of h2)) ?_
    rw [List.length_map, List.length_reverse, List.length_take]
    walk_at "w"
    refine w_if2 (fun c => ?_) (fun c => ?_)
    · walk_at "w"
      refine ⟨by decide, w_new fun q3 H3 hq3 e3 h3 => ?_⟩
      exact none_ q3 H3 (e02.trans e3) (e02.free hq3) h3 (fun z => by have := z.1; omega)
    have hmR : m.toNat ≤ R.length := by omega
    have hSl : (R.take m.toNat).length = m.toNat := by rw [List.length_take]; omega
    obtain ⟨s0, t, hst⟩ : ∃ s0 t, (R.take m.toNat).reverse = s0 :: t := by
      cases e : (R.take m.toNat).reverse with
      | nil =>
        have := congrArg List.length e
        rw [List.length_reverse, hSl] at this
        simp at this
        omega
      | cons s0 t => exact ⟨s0, t, rfl⟩
    have hst_len : t.length + 1 = m.toNat := by
      have := congrArg List.length hst
      rw [List.length_reverse, hSl] at this
      simpa using this.symm
    have hat0 : atI ((s0 :: t).map V.int) 0 = some (.int s0) := atI_nat (j := 0) rfl
    rw [hst] at h2
    walk_at "w"
    refine w_ixl (SqL.of h2) hat0 ?_
    walk_at "w"
    refine ⟨small_le (by simp), w_new fun q3 H3 hq3 e3 h3 => ?_⟩
    have h23 := e3 _ _ h2
    walk_at "w"
    refine w_len (.inl (SqL.of h23)) ?_
    rw [List.length_map]
    walk_at "w"
    have hlen : ((s0 :: t).length : Int) = m := by
      have : (s0 :: t).length = t.length + 1 := rfl
      omega
    rw [hlen]
    refine w_rep h3 (by omega) (by omega) (small_le (by simp; omega)) (w_new fun q4 H4 hq4 e4 h4 => ?_)
    rw [rep_ints] at h4
    have h24 := e4 _ _ h23
    refine ⟨_, _, dp_ints (SqL.of h24), dp_ints (SqL.of h4), shaped_ints _, shaped_ints _, ?_⟩
    rw [eqv_ints]
    have e04 := e02.trans (e3.trans e4)
    walk_at "w"
    refine w_if2 (fun c2 => ?_) (fun c2 => ?_)
    · have hS : R.take m.toNat = List.replicate m.toNat s0 := (all_alike hSl s0).mp (by rw [hst]; exact c2)
      have hhd : R.headD 0 = s0 := by
        cases R with
        | nil => simp at hmR; omega
        | cons r0 R' =>
          have e : m.toNat = (m.toNat - 1) + 1 := by omega
          rw [e, List.take_succ_cons, List.replicate_succ] at hS
          exact (List.cons.inj hS).1
      walk_at "w"
      refine w_ixl (SqL.of h24) hat0 ?_
      walk_at "w"
      refine w_if2 (fun c3 => ?_) (fun c3 => ?_)
      · have c3 : s0 = 0 := by simpa using c3
        walk_at "w"
        refine ⟨by decide, w_new fun q5 H5 hq5 e5 h5 => ?_⟩
        exact none_ q5 H5 (e04.trans e5) (e04.free hq5) h5 (fun z => z.2.2 (by rw [hhd, c3]))
      · have c3 : ¬ s0 = 0 := by simpa using c3
        walk_at "w"
        refine w_ixl (SqL.of h24) hat0 ?_
        walk_at "w"
        refine ⟨small_le (by simp), w_new fun q5 H5 hq5 e5 h5 => ?_⟩
        refine k H5 q5 (e04.trans e5) (e04.free hq5) ?_
        rw [hlk, if_pos ⟨hmR, by rw [hhd]; exact hS, by rw [hhd]; exact c3⟩, hhd]
        exact h5
    · walk_at "w"
      refine ⟨by decide, w_new fun q5 H5 hq5 e5 h5 => ?_⟩
      refine none_ q5 H5 (e04.trans e5) (e04.free hq5) h5 (fun z => c2 ?_)
      have hS := (all_alike hSl _).mpr z.2.1
      rw [hst] at hS
      have e0 : s0 = R.headD 0 := by
        have e : m.toNat = (m.toNat - 1) + 1 := by omega
        rw [e, List.replicate_succ] at hS
        exact (List.cons.inj hS).1
      rw [hS, e0]
  | pairs m =>
    have hs : SqT K H a [.str "pairs", .int m] := .of hg
    walk_at "w"
    refine ⟨by decide, w_new fun q H1 hq e1 h1 => ?_⟩
    have hl1 := e1 _ _ hl
    have nlq : l ≠ q := fun z => by rw [← z, hl] at hq; cases hq
    walk_at "w"
    refine w_len (.inl (SqL.of hl1)) ?_
    rw [List.length_map]
    walk_at "w"
    have hL : (pre ++ [p]).length = pre.length + 1 := by simp
    refine w_forr3 (RgC.neg (by omega) (by omega) (by decide) (by decide)) (fun i σ H' => ∃ k7, σ = [some (.ref a), some (.ref l), some (.int p), none, none, none, some (.ref q), k7, none] ∧ H' q = some (.lst ((firsts (followers p ((p :: pre.reverse).take (i + 1)))).map V.int)) ∧ Out (Is q) H1 H')
      ⟨none, rfl, h1, Out.refl⟩ (fun i σ H' hi w => ?_) (fun σ H' w => ?_)
    · obtain ⟨k7, rfl, hq', o'⟩ := w
      have hl' := o' _ _ hl1 nlq
      have hi' : i + 1 < (pre ++ [p]).length := by omega
      have rv : ∀ j, j < (pre ++ [p]).length → (p :: pre.reverse)[j]? = some ((pre ++ [p]).getD ((pre ++ [p]).length - 1 - j) 0) := fun j hj => by
        rw [← hrev, List.getElem?_reverse hj, List.getD_eq_getElem?_getD, List.getElem?_eq_getElem (by omega)]
        rfl
      have hy := rv i (by omega)
      have hx := rv (i + 1) hi'
      have ek : (((pre ++ [p]).length : Int) - 1 + (i : Nat) * (-1)).toNat = (pre ++ [p]).length - 1 - i := by omega
      have ek1 : (((pre ++ [p]).length : Int) - 1 + (i : Nat) * (-1) - 1).toNat = (pre ++ [p]).length - 1 - (i + 1) := by omega
      have hft := followers_take (k := p) hy hx
      generalize hgy : (pre ++ [p]).getD ((pre ++ [p]).length - 1 - i) 0 = y at *
      generalize hgx : (pre ++ [p]).getD ((pre ++ [p]).length - 1 - (i + 1)) 0 = x at *
      have ay : atI ((pre ++ [p]).map V.int) (((pre ++ [p]).length : Int) - 1 + (i : Nat) * (-1)) = some (.int y) := by
        rw [at_getD (by omega) (by omega), ek, hgy]
      have ax : atI ((pre ++ [p]).map V.int) (((pre ++ [p]).length : Int) - 1 + (i : Nat) * (-1) - 1) = some (.int x) := by
        rw [at_getD (by omega) (by omega), ek1, hgx]
      generalize ((pre ++ [p]).length : Int) - 1 + (i : Nat) * (-1) = kk at ay ax
      walk_at "w"
      refine w_ixl (SqL.of hl') ax ?_
      walk_at "w"
      refine w_if2 (fun c => ?_) (fun c => ?_)
      · have c : x = p := by simpa using c
        rw [if_pos c] at hft
        walk_at "w"
        refine w_ixl (SqL.of hl') ay ?_
        walk_at "w"
        refine w_inl (SqL.of hq') ?_
        rw [if_pos rfl]
        walk_at "w"
        refine w_if2 (fun c2 => ?_) (fun c2 => ?_)
        · walk_at "w"
          refine ⟨_, rfl, ?_, o'⟩
          rw [hft, firsts_snoc]
          unfold more
          rw [if_pos c2]
          exact hq'
        · walk_at "w"
          refine ⟨.inl ⟨rfl, _, SqL.of hq'⟩, ?_⟩
          walk_at "w"
          refine w_ixl (SqL.of hl') ay ?_
          walk_at "w"
          refine w_app hq' (small_lt ?_) ?_
          · rw [List.length_map]
            have f1 := firsts_len (followers p ((p :: pre.reverse).take (i + 1)))
            have f2 := followers_len p ((p :: pre.reverse).take (i + 1))
            have f3 : ((p :: pre.reverse).take (i + 1)).length ≤ (p :: pre.reverse).length := List.length_take_le' _ _
            have f4 : (p :: pre.reverse).length = pre.length + 1 := by simp
            omega
          refine ⟨_, rfl, ?_, o'.trans out_upd⟩
          rw [upd_same, hft, firsts_snoc]
          unfold more
          rw [if_neg c2, List.map_append]
          rfl
      · have c : ¬ x = p := by simpa using c
        rw [if_neg c, List.append_nil] at hft
        walk_at "w"
        refine ⟨_, rfl, ?_, o'⟩
        rw [hft]
        exact hq'
    · obtain ⟨k7, rfl, hq', o'⟩ := w
      have hs' : SqT K H' a [.str "pairs", .int m] := .of (o' _ _ (e1 _ _ hg) (fun z => by
        have z : a = q := z
        rw [← z, show H a = some _ from hg] at hq
        cases hq))
      walk_at "w"
      have htk : (p :: pre.reverse).take ((((pre ++ [p]).length : Int) - 1 - 0).toNat + 1) = p :: pre.reverse := List.take_of_length_le (by simp)
      rw [htk] at hq'
      refine w_sll (SqL.of hq') (w_new fun q2 H2 hq2 e2 h2 => ?_)
      have m0 : 1 ≤ m := ok.1
      rw [cut_take _ (by omega), ← List.map_take] at h2
      have sm : Same H H' := fun b o hb => o' _ _ (e1 _ _ hb) (fun z => by
        have z : b = q := z
        rw [z, hq] at hb
        cases hb)
      exact k H2 q2 (sm.trans e2) (sm.free hq2) h2
  | both x y =>
    obtain ⟨p1, p2, ha, hx, hy⟩ := hg
    have hs : SqT K H a [.str "both", .ref p1, .ref p2] := .of ha
    have hn : max x.depth y.depth + 1 < n + 1 := hn
    walk_at "w"
    refine ⟨p1, l, x, pre ++ [p], rfl, hx, ok.1, by omega, hl, hne, hz, fun H1 q1 e1 f1 hq1 => ?_⟩
    have hs1 : SqT K H1 a [.str "both", .ref p1, .ref p2] := .of (e1 _ _ ha)
    walk_at "w"
    refine ⟨p2, l, y, pre ++ [p], rfl, gtup_same e1 hy, ok.2, by omega, e1 _ _ hl, hne, hz, fun H2 q2 e2 f2 hq2 => ?_⟩
    have hq1' := e2 _ _ hq1
    have w3 : ∀ d : Nat, d ≤ 10 → 2 ^ d ≤ 2 ^ 10 := fun d hd => Nat.pow_le_pow_right (by decide) hd
    have lx := looked_len (pre ++ [p]).reverse ok.1
    have ly := looked_len (pre ++ [p]).reverse ok.2
    have wx := w3 x.depth (by omega)
    have wy := w3 y.depth (by omega)
    refine w_lcl (notIn (looked x (pre ++ [p]).reverse)) id (SqL.of hq2) (small_lt (by rw [List.length_map]; omega)) (fun _ => rfl) (fun v hv H' s R r => ?_) (fun v hv cv H' s R r => ?_) (fun o H3 ho e3 ho3 => ?_)
    · obtain ⟨i, _, rfl⟩ := List.mem_map.mp hv
      walk_at "w"
      refine w_inl (SqL.of (s _ _ hq1')) ?_
      walk_at "w"
      exact r _ (Same.refl _)
    · walk_at "w"
      exact r _ (Same.refl _)
    · rw [added_notIn] at ho3
      refine w_cat (e3 _ _ hq1') ho3 (small_le ?_) (w_new fun q3 H4 hq3 e4 h4 => ?_)
      · rw [List.length_map, List.length_map]
        have h5 := List.length_filter_le (fun v => decide (v ∉ looked x (pre ++ [p]).reverse)) (looked y (pre ++ [p]).reverse)
        omega
      rw [← List.map_append, hrev] at h4
      exact k H4 q3 (e1.trans (e2.trans (e3.trans e4))) (e1.free (e2.free (e3.free hq3))) h4
end
end SwD
set_option Elab.async false
set_option linter.all false
set_option maxRecDepth 100000
set_option maxHeartbeats 4000000
namespace SwD
open PySem PySem.Spec PyProof.Rows L2 SwX StX Sw
local macro_rules | `(tactic| walk_at "lk") => `(tactic| first | exact lk_at | exact lk_no | ((refine' lk_by (by decide +kernel) ?wq); (case wq => walk_at "lk")))
local macro_rules | `(tactic| walk_at "pf") => `(tactic| first | exact pf_at | exact pf_nil | ((refine' pf_by (by decide +kernel) ?wq); (case wq => walk_at "pf")))
local macro_rules | `(tactic| walk_at "w1") => `(tactic| with_reducible first
  | refine w_seq ?_ | refine w_asg ?_ | refine w_name ?_ | refine w_ret ?_ | refine w_retN ?_ | refine w_drop ?_ | refine w_next ?_ | refine w_if ?_ | refine w_ifE ?_ | refine w_test ?_ | refine w_B ?_ | refine w_bl ?_
  | refine w_not ?_ | refine w_and ?_ | refine w_or ?_ | refine w_andV ?_ | refine w_orV ?_ | refine w_notV ?_ | refine w_isN ?_ | refine w_notN ?_ | refine w_yes ?_
  | refine w_c ?_ | refine w_op ?_ | refine w_un ?_ | refine w_i0 ?_ | refine w_neg ?_ | refine w_nil ?_ | refine w_cons ?_ | refine w_cb ?_ | refine w_call ?_ | refine w_tup ?_ | refine w_lst ?_
  | refine w_fld ?_ | refine w_sfld ?_ | refine w_match ?_ | refine w_case ?_ | refine w_mcons ?_ | refine w_mnil ?_ | refine w_mcap ?_ | refine w_many ?_ | refine w_myes ?_
  | refine w_sub ?_ | refine w_bm ?_ | refine w_sl ?_ | refine w_nopart ?_ | refine w_part ?_ | refine w_int ?_ | refine w_ift ?_ | refine w_iff ?_ | refine w_ifn ?_ | refine w_dget2 ?_ | refine w_star ?_ | refine w_dput ?_ | refine w_dnewK ?_ | refine w_meth ?_ | refine w_oneOf ?_ | refine w_make ?_ | refine w_lc ?_ | refine w_for ?_ | refine w_ilist ?_ | refine w_irng1 ?_ | refine w_irng2 ?_ | refine w_irng3 ?_)
local macro_rules | `(tactic| walk_at "w2") => `(tactic| first
  | ((with_reducible refine' w_var ?wh ?_); (case wh => rfl))
  | ((with_reducible refine' w_eq ?wh ?_); (case wh => rfl))
  | ((with_reducible refine' w_ne ?wh ?_); (case wh => rfl))
  | ((with_reducible refine' w_mno ?wh ?_); (case wh => decide +kernel))
  | ((with_reducible refine' w_mhit ?wh ?wl ?_); (case wh => assumption); (case wl => rfl))
  | ((with_reducible refine' w_mmiss ?wh ?wl ?_); (case wh => assumption); (case wl => simp))
  | ((with_reducible refine' w_fldA ?wh ?wc ?wn ?wl ?_); (case wh => first | assumption | exact upd_same); (case wc => assumption); (case wn => assumption); (case wl => walk_at "lk"))
  | ((with_reducible refine' w_ixl ?wh ?we ?_); (case wh => exact SqL.of (by first | assumption | exact upd_same)); (case we => rfl))
  | ((with_reducible refine' w_ixt ?wh ?we ?_); (case wh => assumption); (case we => rfl))
  | ((with_reducible refine' w_ifT ?wh ?_); (case wh => (with_reducible exact Eq.refl _)))
  | ((with_reducible refine' w_ifF ?wh ?_); (case wh => decide +kernel))
  | ((with_reducible refine' w_isiY ?wh ?wk ?_); (case wh => first | exact .int _ | exact .str _ | exact .lst (by assumption) | exact .tup (by assumption)); (case wk => decide +kernel))
  | ((with_reducible refine' w_isiN ?wh ?wk ?_); (case wh => first | exact .int _ | exact .str _ | exact .lst (by assumption) | exact .tup (by assumption)); (case wk => decide +kernel))
  | ((with_reducible refine' w_ifF ?wh ?_); (case wh => (intro z; cases z; done)))
  | ((with_reducible refine' w_setl ?wh ?we ?wl ?_); (case wh => first | assumption | exact upd_same); (case we => rfl); (case wl => rfl))
  | ((with_reducible refine' w_methA ?wh ?wl ?_); (case wh => first | assumption | exact upd_same); (case wl => walk_at "lk"))
  | ((with_reducible refine' w_sfldB ?wc ?wn ?wz ?wl ?_); (case wc => assumption); (case wn => assumption); (case wz => simp); (case wl => walk_at "pf"))
  | ((with_reducible refine' w_sfldA ?wh ?wc ?wn ?wz ?wl ?_); (case wh => assumption); (case wc => assumption); (case wn => assumption); (case wz => simp); (case wl => walk_at "pf")))
local macro_rules | `(tactic| walk_at "w") => `(tactic| repeat (first | walk_at "w1" | walk_at "w2" | (dsimp only [List.set, setAll, List.append, List.cons_append, List.nil_append])))
/-! ### the same data at two places -/
inductive Dat where
  | int (i : Int)
  | str (s : Str)
  | lst (xs : List Dat)
  | tup (xs : List Dat)
mutual
inductive DAt (H : Hp) : Dat → V → Prop
  | int (i : Int) : DAt H (.int i) (.int i)
  | str (s : Str) : DAt H (.str s) (.str s)
  | lst {a : Addr} {xs : List Dat} {vs : List V} : H a = some (.lst vs) → DAll H xs vs → DAt H (.lst xs) (.ref a)
  | tup {a : Addr} {xs : List Dat} {vs : List V} : H a = some (.tup vs) → DAll H xs vs → DAt H (.tup xs) (.ref a)
inductive DAll (H : Hp) : List Dat → List V → Prop
  | nil : DAll H [] []
  | cons {x : Dat} {xs : List Dat} {v : V} {vs : List V} : DAt H x v → DAll H xs vs → DAll H (x :: xs) (v :: vs)
end
theorem DAll.len {H : Hp} : ∀ {xs : List Dat} {vs : List V}, DAll H xs vs → xs.length = vs.length
  | _, _, .nil => rfl
  | _, _, .cons _ t => congrArg (· + 1) t.len
theorem DAll.at {H : Hp} : ∀ {xs : List Dat} {vs : List V} {i : Nat} {x : Dat}, DAll H xs vs → xs[i]? = some x → ∃ v, vs[i]? = some v ∧ DAt H x v
  | _, _, _, _, .nil, e => by simp at e
  | _, _, 0, _, .cons h _, e => by
    have e : _ = _ := Option.some.inj e
    subst e
    exact ⟨_, rfl, h⟩
  | _, _, i + 1, x, .cons _ t, e => by
    obtain ⟨v, h1, h2⟩ := DAll.at (i := i) (x := x) t (by simpa using e)
    exact ⟨v, by simpa using h1, h2⟩
mutual
theorem DAt.same {H H' : Hp} (e : Same H H') : ∀ {d : Dat} {v : V}, DAt H d v → DAt H' d v
  | _, _, .int i => .int i
  | _, _, .str s => .str s
  | _, _, .lst h t => .lst (e _ _ h) (t.same e)
  | _, _, .tup h t => .tup (e _ _ h) (t.same e)
theorem DAll.same {H H' : Hp} (e : Same H H') : ∀ {xs : List Dat} {vs : List V}, DAll H xs vs → DAll H' xs vs
  | _, _, .nil => .nil
  | _, _, .cons h t => .cons (h.same e) (t.same e)
end
/-- no list is longer, none within another deeper -/
def fits (m : Nat) : Nat → Dat → Prop
  | _, .int _ => True
  | _, .str s => SeqAt.shaped (.str s) = true
  | 0, .lst _ => False
  | 0, .tup _ => False
  | n + 1, .lst xs => xs.length ≤ m ∧ ∀ x, x ∈ xs → fits m n x
  | n + 1, .tup xs => xs.length ≤ m ∧ ∀ x, x ∈ xs → fits m n x
def spLawAlike : Nat → Sp
  | 0 => fun _ _ _ _ => False
  | n + 1 => fun vs H Q _ => ∃ d x y, vs = [x, y] ∧ DAt H d x ∧ DAt H d y ∧ fits 100000 n d ∧ ∀ H', Same H H' → Q (.bl true) H'
section
variable {K : PySem.W.Frag}
def t_law_alike (K : PySem.W.Frag) (sp_law_alike : Sp) : TS := tSeq (tIfS (tOr (tB (tCB (rIsi K) (tCons (tVar 1) (tCons (tC (.ty "tuple")) (tNil))))) (tB (tCB (rIsi K) (tCons (tVar 1) (tCons (tC (.ty "list")) (tNil)))))) (tSeq (tIfS (tOr (tTest (tOp (rNe) (tCB (rIsi K) (tCons (tVar 0) (tCons (tC (.ty "tuple")) (tNil)))) (tCB (rIsi K) (tCons (tVar 1) (tCons (tC (.ty "tuple")) (tNil)))))) (tNot (tB (tCB (rIsiT K) (tCons (tVar 0) (tCons (tTup (tCons (tC (.ty "tuple")) (tCons (tC (.ty "list")) (tNil)))) (tNil))))))) (tRet (tC (.bl false))) (tNext))
  (tSeq (tIfS (tTest (tOp (rNe) (tCB (rLenQ K) (tCons (tVar 0) (tNil))) (tCB (rLenQ K) (tCons (tVar 1) (tNil))))) (tRet (tC (.bl false))) (tNext))
  (tRet (tOp (rEqD K) (tLc (iRng1 (tCons (tCB (rLenQ K) (tCons (tVar 1) (tNil))) (tNil))) (gName 2) (tNot (tB (tCall sp_law_alike [] E0 (tCons (tOp (rIx K) (tVar 0) (tVar 2)) (tCons (tOp (rIx K) (tVar 1) (tVar 2)) (tNil)))))) (tVar 2) [2]) (tLst (tNil)))))) (tNext))
  (tSeq (tIfS (tOr (tB (tIsN (tVar 1))) (tB (tIsN (tVar 0)))) (tRet (tAndV (tIsN (tVar 1)) (tIsN (tVar 0)))) (tNext))
  (tSeq (tIfS (tOr (tB (tCB (rIsi K) (tCons (tVar 1) (tCons (tC (.ty "bool")) (tNil))))) (tB (tCB (rIsi K) (tCons (tVar 0) (tCons (tC (.ty "bool")) (tNil)))))) (tRet (tAndV (tCB (rIsi K) (tCons (tVar 1) (tCons (tC (.ty "bool")) (tNil)))) (tAndV (tCB (rIsi K) (tCons (tVar 0) (tCons (tC (.ty "bool")) (tNil)))) (tOp (rEqD K) (tVar 0) (tVar 1))))) (tNext))
  (tSeq (tIfS (tB (tCB (rIsi K) (tCons (tVar 1) (tCons (tC (.ty "str")) (tNil))))) (tRet (tAndV (tCB (rIsi K) (tCons (tVar 0) (tCons (tC (.ty "str")) (tNil)))) (tOp (rEqD K) (tVar 0) (tVar 1)))) (tNext))
  (tRet (tAndV (tCB (rIsi K) (tCons (tVar 0) (tCons (tC (.ty "int")) (tNil)))) (tOp (rEqD K) (tVar 0) (tVar 1)))))))
theorem seq_same {H H' : Hp} {a : Addr} {vs : List V} (e : Same H H') (h : H a = some (.lst vs) ∨ H a = some (.tup vs)) : H' a = some (.lst vs) ∨ H' a = some (.tup vs) := h.imp (e _ _) (e _ _)
theorem seq_ix {H : Hp} {Q : VK} {a : Addr} {vs : List V} {n : Nat} {v : V} (h : H a = some (.lst vs) ∨ H a = some (.tup vs)) (e : vs[n]? = some v) (k : Q v H) : rIx K (.ref a) (.int (n : Int)) H Q := by
  rcases h with h | h
  · exact .inl ⟨a, vs, _, v, rfl, rfl, .of h, atI_nat e, k⟩
  · exact .inr (.inl ⟨a, vs, _, v, rfl, rfl, .of h, atI_nat e, k⟩)
theorem added_no (gv : V → V) (l : List V) : added (fun _ => false) gv l = [] := by
  unfold added
  rw [List.filter_eq_nil_iff.mpr (fun _ _ => by decide)]
  rfl
theorem alike_tail {D : Ends} {H : Hp} {n : Nat} {a b : Addr} {vs ws : List V} {xs : List Dat} (h1 : H a = some (.lst vs) ∨ H a = some (.tup vs)) (h2 : H b = some (.lst ws) ∨ H b = some (.tup ws)) (t1 : DAll H xs vs) (t2 : DAll H xs ws)
    (hf : xs.length ≤ 100000 ∧ ∀ x, x ∈ xs → fits 100000 n x) (k : ∀ H', Same H H' → D.rt (.bl true) H') : (tSeq (tIfS (tTest (tOp (rNe) (tCB (rLenQ K) (tCons (tVar 0) (tNil))) (tCB (rLenQ K) (tCons (tVar 1) (tNil))))) (tRet (tC (.bl false))) (tNext))
  (tRet (tOp (rEqD K) (tLc (iRng1 (tCons (tCB (rLenQ K) (tCons (tVar 1) (tNil))) (tNil))) (gName 2) (tNot (tB (tCall (spLawAlike (n + 1)) [] E0 (tCons (tOp (rIx K) (tVar 0) (tVar 2)) (tCons (tOp (rIx K) (tVar 1) (tVar 2)) (tNil)))))) (tVar 2) [2]) (tLst (tNil))))) D [some (.ref a), some (.ref b), none] H := by
  have q1 : ∀ H', Same H H' → SqL K H' a vs ∨ SqT K H' a vs := fun H' e => (seq_same e h1).imp SqL.of SqT.of
  have q2 : ∀ H', Same H H' → SqL K H' b ws ∨ SqT K H' b ws := fun H' e => (seq_same e h2).imp SqL.of SqT.of
  have l1 := t1.len
  have l2 := t2.len
  walk_at "w"
  refine w_len (q1 _ (Same.refl _)) ?_
  walk_at "w"
  refine w_len (q2 _ (Same.refl _)) ?_
  rw [← l1, ← l2]
  walk_at "w"
  refine w_len (q2 _ (Same.refl _)) ?_
  rw [← l2]
  walk_at "w"
  refine w_lcr1 (fun _ => false) id (by omega) (by omega) (fun _ => rfl) (fun i hi H' e R r => ?_) (fun i _ hc => by cases hc) (fun p H1 hp e1 h => ?_)
  · obtain ⟨d, hd⟩ : ∃ d, xs[i]? = some d := ⟨xs[i], List.getElem?_eq_getElem (by omega)⟩
    obtain ⟨v, hv, dv⟩ := t1.at hd
    obtain ⟨u, hu, du⟩ := t2.at hd
    walk_at "w"
    refine seq_ix (seq_same e h1) hv ?_
    walk_at "w"
    refine seq_ix (seq_same e h2) hu ?_
    walk_at "w"
    refine ⟨d, v, u, rfl, dv.same e, du.same e, hf.2 d (List.mem_of_getElem? hd), fun H2 e2 => ?_⟩
    walk_at "w"
    exact r _ e2
  · rw [added_no] at h
    walk_at "w"
    refine ⟨by decide, w_new fun p2 H2 hp2 e2 h2 => ?_⟩
    refine ⟨_, _, .lst (SqL.of (e2 _ _ h)) .nil, .lst (SqL.of h2) .nil, by decide, by decide, ?_⟩
    exact k _ (e1.trans e2)
theorem pu_law_alike {vs : List V} {H : Hp} {Q : VK} {E : XK} {n : Nat} (h : spLawAlike (n + 1) vs H Q E) : t_law_alike K (spLawAlike n) (B Q) (start ["_law_found", "_law_due", "_law_k"] vs) H := by
  obtain ⟨d, x, y, rfl, hx, hy, hf, k⟩ := h
  unfold t_law_alike
  walk_at "w"
  cases d with
  | int i =>
    cases hx
    cases hy
    walk_at "w"
    refine ⟨_, _, .int i, .int i, rfl, rfl, ?_⟩
    rw [SeqAt.eqv_refl _ rfl]
    exact k _ (Same.refl _)
  | str s =>
    cases hx
    cases hy
    have hs : SeqAt.shaped (.str s) = true := by cases n <;> exact hf
    walk_at "w"
    refine ⟨_, _, .str s, .str s, hs, hs, ?_⟩
    rw [SeqAt.eqv_refl _ (SeqAt.canLay_of_shaped hs)]
    exact k _ (Same.refl _)
  | lst xs =>
    cases hx with
    | lst ha ta =>
    cases hy with
    | lst hb tb =>
    cases n with
    | zero => exact hf.elim
    | succ n =>
    walk_at "w"
    refine ⟨by decide, w_new fun p H1 hp e1 h1 => ?_⟩
    walk_at "w1"
    refine w_isiTL h1 (.lst (e1 _ _ ha)) kit_tl1 ?_
    refine w_bl (w_ifn (w_ift ?_))
    refine w_next ?_
    exact alike_tail (.inl (e1 _ _ ha)) (.inl (e1 _ _ hb)) (ta.same e1) (tb.same e1) hf (fun H' e => k H' (e1.trans e))
  | tup xs =>
    cases hx with
    | tup ha ta =>
    cases hy with
    | tup hb tb =>
    cases n with
    | zero => exact hf.elim
    | succ n =>
    walk_at "w"
    refine ⟨by decide, w_new fun p H1 hp e1 h1 => ?_⟩
    walk_at "w1"
    refine w_isiTL h1 (.tup (e1 _ _ ha)) kit_tl2 ?_
    refine w_bl (w_ifn (w_ift ?_))
    refine w_next ?_
    exact alike_tail (.inr (e1 _ _ ha)) (.inr (e1 _ _ hb)) (ta.same e1) (tb.same e1) hf (fun H' e => k H' (e1.trans e))
end
end SwD
set_option Elab.async false
set_option linter.all false
set_option maxRecDepth 100000
set_option maxHeartbeats 4000000
namespace SwD
open PySem PySem.Spec PyProof.Rows L2 SwX StX Sw
local macro_rules | `(tactic| walk_at "lk") => `(tactic| first | exact lk_at | exact lk_no | ((refine' lk_by (by decide +kernel) ?wq); (case wq => walk_at "lk")))
local macro_rules | `(tactic| walk_at "pf") => `(tactic| first | exact pf_at | exact pf_nil | ((refine' pf_by (by decide +kernel) ?wq); (case wq => walk_at "pf")))
local macro_rules | `(tactic| walk_at "w1") => `(tactic| with_reducible first
  | refine w_seq ?_ | refine w_asg ?_ | refine w_name ?_ | refine w_ret ?_ | refine w_retN ?_ | refine w_drop ?_ | refine w_next ?_ | refine w_if ?_ | refine w_ifE ?_ | refine w_test ?_ | refine w_B ?_ | refine w_bl ?_
  | refine w_not ?_ | refine w_and ?_ | refine w_or ?_ | refine w_andV ?_ | refine w_orV ?_ | refine w_notV ?_ | refine w_isN ?_ | refine w_notN ?_ | refine w_yes ?_
  | refine w_c ?_ | refine w_op ?_ | refine w_un ?_ | refine w_i0 ?_ | refine w_neg ?_ | refine w_nil ?_ | refine w_cons ?_ | refine w_cb ?_ | refine w_call ?_ | refine w_tup ?_ | refine w_lst ?_
  | refine w_fld ?_ | refine w_sfld ?_ | refine w_match ?_ | refine w_case ?_ | refine w_mcons ?_ | refine w_mnil ?_ | refine w_mcap ?_ | refine w_many ?_ | refine w_myes ?_
  | refine w_sub ?_ | refine w_bm ?_ | refine w_sl ?_ | refine w_nopart ?_ | refine w_part ?_ | refine w_int ?_ | refine w_ift ?_ | refine w_iff ?_ | refine w_ifn ?_ | refine w_dget2 ?_ | refine w_star ?_ | refine w_dput ?_ | refine w_dnewK ?_ | refine w_meth ?_ | refine w_oneOf ?_ | refine w_make ?_ | refine w_lc ?_ | refine w_for ?_ | refine w_ilist ?_ | refine w_irng1 ?_ | refine w_irng2 ?_ | refine w_irng3 ?_)
local macro_rules | `(tactic| walk_at "w2") => `(tactic| first
  | ((with_reducible refine' w_var ?wh ?_); (case wh => rfl))
  | ((with_reducible refine' w_eq ?wh ?_); (case wh => rfl))
  | ((with_reducible refine' w_ne ?wh ?_); (case wh => rfl))
  | ((with_reducible refine' w_mno ?wh ?_); (case wh => decide +kernel))
  | ((with_reducible refine' w_mhit ?wh ?wl ?_); (case wh => assumption); (case wl => rfl))
  | ((with_reducible refine' w_mmiss ?wh ?wl ?_); (case wh => assumption); (case wl => simp))
  | ((with_reducible refine' w_fldA ?wh ?wc ?wn ?wl ?_); (case wh => first | assumption | exact upd_same); (case wc => assumption); (case wn => assumption); (case wl => walk_at "lk"))
  | ((with_reducible refine' w_ixl ?wh ?we ?_); (case wh => exact SqL.of (by first | assumption | exact upd_same)); (case we => rfl))
  | ((with_reducible refine' w_ixt ?wh ?we ?_); (case wh => assumption); (case we => rfl))
  | ((with_reducible refine' w_ifT ?wh ?_); (case wh => (with_reducible exact Eq.refl _)))
  | ((with_reducible refine' w_ifF ?wh ?_); (case wh => decide +kernel))
  | ((with_reducible refine' w_isiY ?wh ?wk ?_); (case wh => first | exact .int _ | exact .str _ | exact .lst (by assumption) | exact .tup (by assumption)); (case wk => decide +kernel))
  | ((with_reducible refine' w_isiN ?wh ?wk ?_); (case wh => first | exact .int _ | exact .str _ | exact .lst (by assumption) | exact .tup (by assumption)); (case wk => decide +kernel))
  | ((with_reducible refine' w_ifF ?wh ?_); (case wh => (intro z; cases z; done)))
  | ((with_reducible refine' w_setl ?wh ?we ?wl ?_); (case wh => first | assumption | exact upd_same); (case we => rfl); (case wl => rfl))
  | ((with_reducible refine' w_methA ?wh ?wl ?_); (case wh => first | assumption | exact upd_same); (case wl => walk_at "lk"))
  | ((with_reducible refine' w_sfldB ?wc ?wn ?wz ?wl ?_); (case wc => assumption); (case wn => assumption); (case wz => simp); (case wl => walk_at "pf"))
  | ((with_reducible refine' w_sfldA ?wh ?wc ?wn ?wz ?wl ?_); (case wh => assumption); (case wc => assumption); (case wn => assumption); (case wz => simp); (case wl => walk_at "pf")))
local macro_rules | `(tactic| walk_at "w") => `(tactic| repeat (first | walk_at "w1" | walk_at "w2" | (dsimp only [List.set, setAll, List.append, List.cons_append, List.nil_append])))
section
variable {K : PySem.W.Frag}
def dueRow (g : G) (ls : List Int) (k : Nat) : List Int := looked g (ls.take (k + 1)).reverse
theorem row_due {g : G} (ok : g.ok) {ls : List Int} {k : Nat} (h : k < ls.length) : row g ls k = (dueRow g ls k).map V.int := by
  unfold row dueRow
  rw [says_looked ok, SwX.take_more (List.getElem?_eq_getElem h), List.getD_eq_getElem?_getD, List.getElem?_eq_getElem h]
  rfl
/-- a list of lists of ints -/
def datRows (f : Nat → List Int) (n : Nat) : Dat := .lst ((List.range n).map fun k => .lst ((f k).map Dat.int))
theorem dat_ints {H : Hp} : ∀ l : List Int, DAll H (l.map Dat.int) (l.map V.int)
  | [] => .nil
  | x :: r => .cons (.int x) (dat_ints r)
theorem dat_rows {H : Hp} {f : Nat → List Int} : ∀ {rs : List Addr} (m : Nat), (∀ k r, rs[k]? = some r → H r = some (.lst ((f (m + k)).map V.int))) → DAll H ((List.range' m rs.length).map fun k => Dat.lst ((f k).map Dat.int)) (rs.map V.ref)
  | [], _, _ => .nil
  | r :: rs, m, h => .cons (.lst (h 0 r rfl) (dat_ints _)) (dat_rows (m + 1) fun k r' e => by
      have := h (k + 1) r' e
      rw [show m + (k + 1) = m + 1 + k by omega] at this
      exact this)
theorem dat_at {H : Hp} {f : Nat → List Int} {a : Addr} {rs : List Addr} {n : Nat} (hn : rs.length = n) (ha : H a = some (.lst (rs.map V.ref))) (h : ∀ k r, rs[k]? = some r → H r = some (.lst ((f k).map V.int))) : DAt H (datRows f n) (.ref a) := by
  unfold datRows
  rw [List.range_eq_range', ← hn]
  refine .lst ha (dat_rows 0 fun k r e => ?_)
  rw [Nat.zero_add]
  exact h k r e
theorem again_turn {D : Ends} {a pl du hd : Addr} {g : G} {ls : List Int} {rs : List Addr} {H : Hp} {s0 s1 s2 s4 s8 s9 s10 s11 : Option V} (hg : GTup H g a) (ok : g.ok) (dp : g.depth ≤ 3) (hz : ls.length ≤ 1000) (hpl : H pl = some (.lst (ls.map V.int))) (hdu : H du = some (.lst (rs.map V.ref))) (hrs : rs.length = ls.length)
    (hrow : ∀ k r, rs[k]? = some r → H r = some (.lst ((dueRow g ls k).map V.int))) (hhd : H hd = some (.lst (ls.map V.int))) (hn : ∀ H' v9 v10, Same H H' → D.nx [s0, s1, s2, some (.ref a), s4, some (.ref pl), some (.ref du), some (.ref hd), s8, v9, v10, s11] H') :
    (tSeq (tAsg (tCall (spGuesses K) [] E0 (tCons (tVar 3) (tCons (tVar 7) (tNil)))) (gName 9))
  (tSeq (tIfS (tOr (tNot (tB (tCall (spLawAlike 3) [] E0 (tCons (tVar 9) (tCons (tVar 6) (tNil)))))) (tTest (tOp (rNeD K) (tVar 7) (tVar 5)))) (tRet (tC (.bl false))) (tNext))
  (tSeq (tFor (iList K (tVar 9)) (gName 10) (tDrop (tBM K "list" rAppend (tVar 10) (tCons (tC (.int 7)) (tNil)))))
  (tDrop (tBM K "list" rAppend (tVar 9) (tCons (tLst (tNil)) (tNil))))))) D [s0, s1, s2, some (.ref a), s4, some (.ref pl), some (.ref du), some (.ref hd), s8, s9, s10, s11] H := by
  walk_at "w"
  refine ⟨a, hd, g, ls, rfl, hg, ok, dp, SqL.of hhd, hz, fun H1 q fs e1 fq hq hfs hrow1 nd => ?_⟩
  walk_at "w"
  have hrow1' : ∀ k r, fs[k]? = some r → H1 r = some (.lst ((dueRow g ls k).map V.int)) := fun k r e => by
    have hk := (List.getElem?_eq_some_iff.mp e).1
    rw [← row_due ok (by omega)]
    exact (hrow1 k r e).2
  have d1 : DAt H1 (datRows (dueRow g ls) ls.length) (.ref q) := dat_at hfs hq hrow1'
  have d2 : DAt H1 (datRows (dueRow g ls) ls.length) (.ref du) := dat_at hrs (e1 _ _ hdu) (fun k r e => e1 _ _ (hrow k r e))
  have hfit : fits 100000 2 (datRows (dueRow g ls) ls.length) := by
    refine ⟨by rw [List.length_map, List.length_range]; omega, fun x hx => ?_⟩
    obtain ⟨k, _, rfl⟩ := List.mem_map.mp hx
    refine ⟨?_, fun y hy => ?_⟩
    · rw [List.length_map]
      have := looked_len (ls.take (k + 1)).reverse ok
      have : 2 ^ g.depth ≤ 2 ^ 3 := Nat.pow_le_pow_right (by decide) dp
      unfold dueRow
      omega
    · obtain ⟨i, _, rfl⟩ := List.mem_map.mp hy
      trivial
  refine ⟨_, _, _, rfl, d1, d2, hfit, fun H2 e2 => ?_⟩
  have e02 := e1.trans e2
  walk_at "w"
  refine ⟨_, _, dp_ints (SqL.of (e02 _ _ hhd)), dp_ints (SqL.of (e02 _ _ hpl)), shaped_ints _, shaped_ints _, ?_⟩
  rw [SeqAt.eqv_refl _ (SeqAt.canLay_of_shaped (shaped_ints ls))]
  walk_at "w"
  have ndf := List.nodup_cons.mp nd
  refine w_forl (fun i σ H' => ∃ v10, σ = [s0, s1, s2, some (.ref a), s4, some (.ref pl), some (.ref du), some (.ref hd), s8, some (.ref q), v10, s11] ∧ Same H H' ∧ H' q = some (.lst (fs.map V.ref)) ∧ ∀ k r, i ≤ k → fs[k]? = some r → H' r = some (.lst ((dueRow g ls k).map V.int)))
    (SqL.of (e2 _ _ hq)) ⟨s10, rfl, e02, e2 _ _ hq, fun k r _ e => e2 _ _ (hrow1' k r e)⟩ (fun i σ H' _ p => ?_) (fun i x σ H' hi p => ?_) (fun σ H' p => ?_)
  · obtain ⟨_, _, _, h, _⟩ := p
    exact SqL.of h
  · obtain ⟨v10, rfl, s', hq', hr'⟩ := p
    obtain ⟨r, hr, rfl⟩ : ∃ r, fs[i]? = some r ∧ x = V.ref r := by
      rw [List.getElem?_map] at hi
      cases e : fs[i]? with
      | none => rw [e] at hi; cases hi
      | some r => rw [e] at hi; exact ⟨r, rfl, (Option.some.inj hi).symm⟩
    have hri := hr' i r (Nat.le_refl _) hr
    have fr : H r = none := (hrow1 i r hr).1
    walk_at "w"
    refine ⟨.inl ⟨rfl, _, SqL.of hri⟩, ?_⟩
    walk_at "w"
    refine w_app hri (small_lt ?_) ?_
    · rw [List.length_map]
      have := looked_len (ls.take (i + 1)).reverse ok
      have : 2 ^ g.depth ≤ 2 ^ 3 := Nat.pow_le_pow_right (by decide) dp
      unfold dueRow
      omega
    refine ⟨_, rfl, fun b o hb => ?_, ?_, fun k r' hk e => ?_⟩
    · rw [upd_ne (fun z => by rw [z, fr] at hb; cases hb)]
      exact s' b o hb
    · rw [upd_ne (fun z => ndf.1 (by rw [z]; exact List.mem_of_getElem? hr))]
      exact hq'
    · rw [upd_ne (fun z => ?_)]
      · exact hr' k r' (by omega) e
      · rw [z] at e
        have h1 := (List.getElem?_eq_some_iff.mp e)
        have h2 := (List.getElem?_eq_some_iff.mp hr)
        obtain ⟨l1, g1⟩ := h1
        obtain ⟨l2, g2⟩ := h2
        have := (List.getElem_inj ndf.2).mp (g1.trans g2.symm)
        omega
  · obtain ⟨v10, rfl, s', hq', _⟩ := p
    walk_at "w"
    refine ⟨.inl ⟨rfl, _, SqL.of hq'⟩, ?_⟩
    walk_at "w"
    refine ⟨by decide, w_new fun z H3 hz3 e3 h3 => ?_⟩
    walk_at "w"
    refine w_app (e3 _ _ hq') (small_lt ?_) ?_
    · rw [List.length_map]
      omega
    refine hn _ _ _ (fun b o hb => ?_)
    rw [upd_ne (fun z => by rw [z, fq] at hb; cases hb)]
    exact e3 _ _ (s' b o hb)
theorem row_lstK {H H' : Hp} {r a : Addr} {xs : List V} (n : a ≠ r) (o : Out (Is r) H H') (t : H a = some (.lst xs)) : H' a = some (.lst xs) := o _ _ t n
theorem turn_k03 {D : Ends} {r : Addr} {H : Hp} {s0 s2 s3 s4 s5 s6 s7 s8 s9 s10 s11 : Option V} (row : RowAt K H r)
    (hn : ∀ H' v3 v4 v5 v6 v7 v8 v9 v10, RowAt K H' r → D.nx [s0, some (.ref r), s2, v3, v4, v5, v6, v7, v8, v9, v10, s11] H') :
    (tSeq (tAsg (tCall (spLawGuesser K 4) [] E0 (tCons (tVar 1) (tCons (tC (.int 3)) (tNil)))) (gName 3))
  (tSeq (tAsg (tOp (rIxL K) (tLst (tCons (tC (.int 40)) (tCons (tC (.int 100)) (tNil)))) (tOp (rDivI) (tCall (spTaken K) [] E0 (tCons (tVar 1) (tCons (tC (.int 4)) (tNil)))) (tC (.int 3)))) (gName 4))
  (tSeq (tAsg (tCall (spLawPlaces K) [] E0 (tCons (tVar 1) (tCons (tOp (rIxL K) (tLst (tCons (tC (.int 4)) (tCons (tC (.int 12)) (tCons (tOp (rPowI) (tC (.int 10)) (tC (.int 6))) (tNil))))) (tCall (spTaken K) [] E0 (tCons (tVar 1) (tCons (tC (.int 3)) (tNil))))) (tCons (tVar 4) (tNil))))) (gName 5))
  (tSeq (tAsg (tLc (iRng1 (tCons (tCB (rLenQ K) (tCons (tVar 5) (tNil))) (tNil))) (gName 11) (tYes) (tCall (spLawGuessed K 4) [] E0 (tCons (tVar 3) (tCons (tSl (rSlL K) (tVar 5) (tNoPart) (tPart (tOp (rAddI) (tVar 11) (tC (.int 1))))) (tNil)))) [11]) (gName 6))
  (tSeq (tAsg (tCB (rListOf K) (tCons (tVar 5) (tNil))) (gName 7))
  (tFor (iRng1 (tCons (tC (.int 2)) (tNil))) (gName 8) (tSeq (tAsg (tCall (spGuesses K) [] E0 (tCons (tVar 3) (tCons (tVar 7) (tNil)))) (gName 9))
  (tSeq (tIfS (tOr (tNot (tB (tCall (spLawAlike 3) [] E0 (tCons (tVar 9) (tCons (tVar 6) (tNil)))))) (tTest (tOp (rNeD K) (tVar 7) (tVar 5)))) (tRet (tC (.bl false))) (tNext))
  (tSeq (tFor (iList K (tVar 9)) (gName 10) (tDrop (tBM K "list" rAppend (tVar 10) (tCons (tC (.int 7)) (tNil)))))
  (tDrop (tBM K "list" rAppend (tVar 9) (tCons (tLst (tNil)) (tNil))))))))))))) D [s0, some (.ref r), s2, s3, s4, s5, s6, s7, s8, s9, s10, s11] H := by
  walk_at "w"
  refine ⟨r, 3, rfl, by decide, by decide, by decide, row, fun H1 a g ok dp gt row1 o1 => ?_⟩
  walk_at "w"
  -- how many at the most
  refine ⟨by decide, w_new fun l1 H2 hl1 e2 h2 => ?_⟩
  have row2 := row_same e2 row1
  have n1 := row_new row1 hl1
  walk_at "w"
  refine ⟨r, 4, rfl, by decide, row2, fun H3 v v0 v1 row3 o3 => ?_⟩
  walk_at "w"
  refine w_i ⟨by decide, by decide⟩ ?_
  obtain ⟨m, hm, m0, m1⟩ : ∃ m : Int, atI [V.int 40, V.int 100] (v / 3) = some (.int m) ∧ 0 ≤ m ∧ m ≤ 1000 := by
    have hv : v / 3 = 0 ∨ v / 3 = 1 := by omega
    rcases hv with e | e
    · exact ⟨40, by rw [e]; rfl, by decide, by decide⟩
    · exact ⟨100, by rw [e]; rfl, by decide, by decide⟩
  refine w_ixl (SqL.of (o3 _ _ h2 n1)) hm ?_
  walk_at "w"
  -- the places
  refine w_i ⟨by decide, by decide, by decide⟩ ?_
  walk_at "w"
  refine ⟨by decide, w_new fun l2 H4 hl2 e4 h4 => ?_⟩
  have row4 := row_same e4 row3
  have n2 := row_new row3 hl2
  walk_at "w"
  refine ⟨r, 3, rfl, by decide, row4, fun H5 w w0 w1 row5 o5 => ?_⟩
  obtain ⟨p, hp, p0, p1⟩ : ∃ p : Int, atI [V.int 4, V.int 12, V.int (10 ^ Int.toNat 6)] w = some (.int p) ∧ 1 ≤ p ∧ p ≤ 1000000 := by
    have hw : w = 0 ∨ w = 1 ∨ w = 2 := by omega
    rcases hw with e | e | e
    · exact ⟨4, by rw [e]; rfl, by decide, by decide⟩
    · exact ⟨12, by rw [e]; rfl, by decide, by decide⟩
    · exact ⟨1000000, by rw [e]; rfl, by decide, by decide⟩
  refine w_ixl (SqL.of (o5 _ _ h4 n2)) hp ?_
  walk_at "w"
  refine ⟨r, p, m, rfl, p0, p1, m0, m1, row5, fun H6 pl ls hls _ fpl hpl row6 o6 => ?_⟩
  have o16 : Out (Is r) H1 H6 := (same_out e2).trans (o3.trans ((same_out e4).trans (o5.trans o6)))
  have gt6 : GTup H6 g a := row_gtup row1 o16 gt
  have hz : ls.length ≤ 1000 := by omega
  walk_at "w"
  -- what is due
  refine w_len (.inl (SqL.of hpl)) ?_
  rw [List.length_map]
  walk_at "w"
  refine ⟨_, rfl, by omega, by omega, fun Dl hD => lc_range (fun i H' => ∃ rs : List Addr, Same H6 H' ∧ H' Dl = some (.lst (rs.map V.ref)) ∧ rs.length = i ∧ ∀ k q, rs[k]? = some q → q ≠ Dl ∧ H' q = some (.lst ((dueRow g ls k).map V.int))) ?_ (fun i H' hi p => ?_) (fun H' p => ?_)⟩
  · exact ⟨[], same_upd hD, upd_same, rfl, fun k q e => by simp at e⟩
  · obtain ⟨rs, s', h1, h2', h3⟩ := p
    have hil : i < ls.length := by omega
    refine ⟨rfl, ?_⟩
    walk_at "w"
    refine w_sll (SqL.of (s' _ _ hpl)) (w_new fun q1 H7 hq1 e7 h7 => ?_)
    have hcut : cutV (ls.map V.int) none (some ((0 : Int) + (i : Int) + 1)) = (ls.take (i + 1)).map V.int := by
      rw [cut_take _ (by omega), show ((0 : Int) + (i : Int) + 1).toNat = i + 1 by omega, List.map_take]
    rw [hcut] at h7
    walk_at "w"
    refine ⟨a, q1, g, ls.take (i + 1), rfl, gtup_same (s'.trans e7) gt6, ok, by omega, h7, fun z => ?_, ?_, fun H8 q2 e8 f8 h8 => ?_⟩
    · have := congrArg List.length z
      rw [List.length_take, List.length_nil] at this
      omega
    · rw [List.length_take]
      omega
    have e78 := e7.trans e8
    have nq : q2 ≠ Dl := fun z => by rw [z, e7 _ _ h1] at f8; cases f8
    refine ⟨_, e78 _ _ h1, small_lt (by rw [List.length_map]; omega), rs ++ [q2], fun b o hb => ?_, ?_, by rw [List.length_append, h2']; rfl, fun k q e => ?_⟩
    · rw [upd_ne (fun z => by rw [z, hD] at hb; cases hb)]
      exact e78 _ _ (s' _ _ hb)
    · rw [upd_same, List.map_append]
      rfl
    · by_cases hk : k < rs.length
      · rw [List.getElem?_append_left hk] at e
        obtain ⟨w1, w2⟩ := h3 k q e
        exact ⟨w1, by rw [upd_ne w1]; exact e78 _ _ w2⟩
      · have hk2 : k = rs.length := by
          have := (List.getElem?_eq_some_iff.mp e).1
          rw [List.length_append] at this
          simp at this
          omega
        rw [hk2, List.getElem?_append_right (Nat.le_refl _), Nat.sub_self] at e
        have e : q2 = q := by simpa using e
        subst e
        refine ⟨nq, ?_⟩
        rw [upd_ne nq, h8, hk2, h2']
        rfl
  · obtain ⟨rs, s', h1, h2', h3⟩ := p
    have hrs : rs.length = ls.length := by omega
    walk_at "w"
    refine w_listof (SqL.of (s' _ _ hpl)) (w_new fun hd H7 fhd e7 h7 => ?_)
    have e67 := s'.trans e7
    walk_at "w"
    refine w_forr1 (fun i σ H' => ∃ v8 v9 v10, σ = [s0, some (.ref r), s2, some (.ref a), some (.int m), some (.ref pl), some (.ref Dl), some (.ref hd), v8, v9, v10, s11] ∧ Same H7 H') (by decide) ⟨_, _, _, rfl, Same.refl _⟩ (fun i σ H' hi p => ?_) (fun σ H' p => ?_)
    · obtain ⟨v8, v9, v10, rfl, s8⟩ := p
      walk_at "w1"
      dsimp only [List.set]
      exact again_turn (gtup_same (e67.trans s8) gt6) ok (by omega) hz (s8 _ _ (e67 _ _ hpl)) (s8 _ _ (e7 _ _ h1)) hrs (fun k q e => s8 _ _ (e7 _ _ (h3 k q e).2)) (s8 _ _ h7) (fun H'' v9 v10 s9 => ⟨_, v9, v10, rfl, s8.trans s9⟩)
    · obtain ⟨v8, v9, v10, rfl, s8⟩ := p
      exact hn H' _ _ _ _ _ _ _ _ (row_same (e67.trans s8) row6)
def spLaw (K : PySem.W.Frag) : Sp := fun vs H Q _ => ∃ a ns, vs = [.ref a] ∧ Scr K H a (List.map V.int ns) ∧ ∀ H', Q (.bl true) H'
def t_law (K : PySem.W.Frag) (sp_guesses sp_law_alike sp_law_guesser sp_law_taken sp_law_places sp_law_guessed : Sp) : TS := tSeq (tAsg (tLst (tCons (tVar 0) (tCons (tC (.int 0)) (tCons (tC (.int 0)) (tNil))))) (gName 1))
  (tSeq (tFor (iRng1 (tCons (tC (.int 4)) (tNil))) (gName 2) (tSeq (tAsg (tCall sp_law_guesser [] E0 (tCons (tVar 1) (tCons (tC (.int 3)) (tNil)))) (gName 3))
  (tSeq (tAsg (tOp (rIxL K) (tLst (tCons (tC (.int 40)) (tCons (tC (.int 100)) (tNil)))) (tOp (rDivI) (tCall sp_law_taken [] E0 (tCons (tVar 1) (tCons (tC (.int 4)) (tNil)))) (tC (.int 3)))) (gName 4))
  (tSeq (tAsg (tCall sp_law_places [] E0 (tCons (tVar 1) (tCons (tOp (rIxL K) (tLst (tCons (tC (.int 4)) (tCons (tC (.int 12)) (tCons (tOp (rPowI) (tC (.int 10)) (tC (.int 6))) (tNil))))) (tCall sp_law_taken [] E0 (tCons (tVar 1) (tCons (tC (.int 3)) (tNil))))) (tCons (tVar 4) (tNil))))) (gName 5))
  (tSeq (tAsg (tLc (iRng1 (tCons (tCB (rLenQ K) (tCons (tVar 5) (tNil))) (tNil))) (gName 11) (tYes) (tCall sp_law_guessed [] E0 (tCons (tVar 3) (tCons (tSl (rSlL K) (tVar 5) (tNoPart) (tPart (tOp (rAddI) (tVar 11) (tC (.int 1))))) (tNil)))) [11]) (gName 6))
  (tSeq (tAsg (tCB (rListOf K) (tCons (tVar 5) (tNil))) (gName 7))
  (tFor (iRng1 (tCons (tC (.int 2)) (tNil))) (gName 8) (tSeq (tAsg (tCall sp_guesses [] E0 (tCons (tVar 3) (tCons (tVar 7) (tNil)))) (gName 9))
  (tSeq (tIfS (tOr (tNot (tB (tCall sp_law_alike [] E0 (tCons (tVar 9) (tCons (tVar 6) (tNil)))))) (tTest (tOp (rNeD K) (tVar 7) (tVar 5)))) (tRet (tC (.bl false))) (tNext))
  (tSeq (tFor (iList K (tVar 9)) (gName 10) (tDrop (tBM K "list" rAppend (tVar 10) (tCons (tC (.int 7)) (tNil)))))
  (tDrop (tBM K "list" rAppend (tVar 9) (tCons (tLst (tNil)) (tNil))))))))))))))
  (tRet (tC (.bl true))))
theorem pu_law {vs : List V} {H : Hp} {Q : VK} {E : XK} (h : spLaw K vs H Q E) : t_law K (spGuesses K) (spLawAlike 3) (spLawGuesser K 4) (spTaken K) (spLawPlaces K) (spLawGuessed K 4) (B Q) (start ["_law_script", "_law_row", "_law_turn", "_law_guesser_here", "_law_most", "_law_places_here", "_law_due", "_law_handed", "_law_again", "_law_found", "_law_some", "_law_k"] vs) H := by
  obtain ⟨a, ns, rfl, hs, k⟩ := h
  unfold t_law
  walk_at "w"
  refine ⟨small_le (by simp), w_new fun r H1 hr e1 h1 => ?_⟩
  walk_at "w"
  refine w_forr1 (fun i σ H' => ∃ v2 v3 v4 v5 v6 v7 v8 v9 v10, σ = [some (.ref a), some (.ref r), v2, v3, v4, v5, v6, v7, v8, v9, v10, none] ∧ RowAt K H' r) (by decide) ⟨_, _, _, _, _, _, _, _, _, rfl, a, 0, 0, ns, h1, by decide, by decide, by decide, scr_keep (fun o u z => e1 _ _ z) hs⟩ (fun i σ H' hi p => ?_) (fun σ H' p => ?_)
  · obtain ⟨v2, v3, v4, v5, v6, v7, v8, v9, v10, rfl, row⟩ := p
    walk_at "w1"
    dsimp only [List.set]
    exact turn_k03 row (fun H'' v3 v4 v5 v6 v7 v8 v9 v10 row' => ⟨_, v3, v4, v5, v6, v7, v8, v9, v10, rfl, row'⟩)
  · obtain ⟨v2, v3, v4, v5, v6, v7, v8, v9, v10, rfl, row⟩ := p
    walk_at "w"
    exact k _
end
end SwD
set_option Elab.async false
set_option linter.all false
set_option maxRecDepth 100000
set_option maxHeartbeats 4000000
namespace SwD
open PySem PySem.Spec PyProof.Rows L2 SwX StX Sw
/-! ### the text by places -/
def topS (i : Nat) : Stmt := PySem.Challenge.pw_stridewell_k03_whole_what_is_guessed.main.body.getD i (.Pass ⟨0, 0, 0, 0⟩)
abbrev s_Silent_guess : Stmt := inClass (topS 5) 0
theorem sc_Silent_guess : FnScope ["self", "place"] ["self", "place"] (defScope s_Silent_guess) := ⟨rfl, rfl, rfl, by decide +kernel, rfl, by decide +kernel, by decide +kernel⟩
abbrev s_Neighbours_init : Stmt := inClass (topS 6) 0
theorem sc_Neighbours_init : FnScope ["self", "many"] ["self", "many"] (defScope s_Neighbours_init) := ⟨rfl, rfl, rfl, by decide +kernel, rfl, by decide +kernel, by decide +kernel⟩
abbrev s_Neighbours_guess : Stmt := inClass (topS 6) 1
theorem sc_Neighbours_guess : FnScope ["self", "place", "step"] ["self", "place"] (defScope s_Neighbours_guess) := ⟨rfl, rfl, rfl, by decide +kernel, rfl, by decide +kernel, by decide +kernel⟩
abbrev s_Strides_init : Stmt := inClass (topS 7) 0
theorem sc_Strides_init : FnScope ["self", "times"] ["self", "times"] (defScope s_Strides_init) := ⟨rfl, rfl, rfl, by decide +kernel, rfl, by decide +kernel, by decide +kernel⟩
abbrev s_Strides_guess : Stmt := inClass (topS 7) 1
theorem sc_Strides_guess : FnScope ["self", "place"] ["self", "place"] (defScope s_Strides_guess) := ⟨rfl, rfl, rfl, by decide +kernel, rfl, by decide +kernel, by decide +kernel⟩
abbrev s_Strides_count_stride : Stmt := inClass (topS 7) 2
theorem sc_Strides_count_stride : FnScope ["self", "stride"] ["self", "stride"] (defScope s_Strides_count_stride) := ⟨rfl, rfl, rfl, by decide +kernel, rfl, by decide +kernel, by decide +kernel⟩
abbrev s_Pairs_init : Stmt := inClass (topS 8) 0
theorem sc_Pairs_init : FnScope ["self", "many"] ["self", "many"] (defScope s_Pairs_init) := ⟨rfl, rfl, rfl, by decide +kernel, rfl, by decide +kernel, by decide +kernel⟩
abbrev s_Pairs_guess : Stmt := inClass (topS 8) 1
theorem sc_Pairs_guess : FnScope ["self", "place"] ["self", "place"] (defScope s_Pairs_guess) := ⟨rfl, rfl, rfl, by decide +kernel, rfl, by decide +kernel, by decide +kernel⟩
abbrev s_Pairs_put_behind : Stmt := inClass (topS 8) 2
theorem sc_Pairs_put_behind : FnScope ["self", "earlier", "place", "others", "other"] ["self", "earlier", "place"] (defScope s_Pairs_put_behind) := ⟨rfl, rfl, rfl, by decide +kernel, rfl, by decide +kernel, by decide +kernel⟩
abbrev s_Both_init : Stmt := inClass (topS 9) 0
theorem sc_Both_init : FnScope ["self", "one", "other"] ["self", "one", "other"] (defScope s_Both_init) := ⟨rfl, rfl, rfl, by decide +kernel, rfl, by decide +kernel, by decide +kernel⟩
abbrev s_Both_guess : Stmt := inClass (topS 9) 1
theorem sc_Both_guess : FnScope ["self", "place", "first", "second", "guessed"] ["self", "place"] (defScope s_Both_guess) := ⟨rfl, rfl, rfl, by decide +kernel, rfl, by decide +kernel, by decide +kernel⟩
abbrev s_is_guesser : Stmt := topS 10
theorem sc_is_guesser : FnScope ["guesser", "boths", "many", "times", "one", "other"] ["guesser", "boths"] (defScope s_is_guesser) := ⟨rfl, rfl, rfl, by decide +kernel, rfl, by decide +kernel, by decide +kernel⟩
abbrev s_check_guesser : Stmt := topS 11
theorem sc_check_guesser : FnScope ["guesser"] ["guesser"] (defScope s_check_guesser) := ⟨rfl, rfl, rfl, by decide +kernel, rfl, by decide +kernel, by decide +kernel⟩
abbrev s_begun : Stmt := topS 12
theorem sc_begun : FnScope ["guesser", "many", "times", "one", "other"] ["guesser"] (defScope s_begun) := ⟨rfl, rfl, rfl, by decide +kernel, rfl, by decide +kernel, by decide +kernel⟩
abbrev s_guesses : Stmt := topS 13
theorem sc_guesses : FnScope ["guesser", "places", "told", "place"] ["guesser", "places"] (defScope s_guesses) := ⟨rfl, rfl, rfl, by decide +kernel, rfl, by decide +kernel, by decide +kernel⟩
abbrev s_law_taken : Stmt := topS 15
theorem sc_law_taken : FnScope ["_law_row", "_law_many", "_law_cell"] ["_law_row", "_law_many"] (defScope s_law_taken) := ⟨rfl, rfl, rfl, by decide +kernel, rfl, by decide +kernel, by decide +kernel⟩
abbrev s_law_alike : Stmt := topS 16
theorem sc_law_alike : FnScope ["_law_found", "_law_due", "_law_k"] ["_law_found", "_law_due"] (defScope s_law_alike) := ⟨rfl, rfl, rfl, by decide +kernel, rfl, by decide +kernel, by decide +kernel⟩
abbrev s_law_guesser : Stmt := topS 17
theorem sc_law_guesser : FnScope ["_law_row", "_law_within", "_law_way", "_law_one", "_law_sorts"] ["_law_row", "_law_within"] (defScope s_law_guesser) := ⟨rfl, rfl, rfl, by decide +kernel, rfl, by decide +kernel, by decide +kernel⟩
abbrev s_law_places : Stmt := topS 18
theorem sc_law_places : FnScope ["_law_row", "_law_places_here", "_law_most", "_law_found", "_law_here", "_law_far", "_law_k", "_law_way"] ["_law_row", "_law_places_here", "_law_most"] (defScope s_law_places) := ⟨rfl, rfl, rfl, by decide +kernel, rfl, by decide +kernel, by decide +kernel⟩
abbrev s_law_guessed : Stmt := topS 19
theorem sc_law_guessed : FnScope ["_law_guesser_here", "_law_places_here", "_law_here", "_law_one", "_law_strides", "_law_some", "_law_found", "_law_k", "_law_place"] ["_law_guesser_here", "_law_places_here"] (defScope s_law_guessed) := ⟨rfl, rfl, rfl, by decide +kernel, rfl, by decide +kernel, by decide +kernel⟩
abbrev s_law : Stmt := topS 20
theorem sc_law : FnScope ["_law_script", "_law_row", "_law_turn", "_law_guesser_here", "_law_most", "_law_places_here", "_law_due", "_law_handed", "_law_again", "_law_found", "_law_some", "_law_k"] ["_law_script"] (defScope s_law) := ⟨rfl, rfl, rfl, by decide +kernel, rfl, by decide +kernel, by decide +kernel⟩
structure Top (K : PySem.W.Frag) (mg : Str → Option Value) where
  c_Silent : Addr
  cl_Silent : Cls K c_Silent
  g_Silent : mg "Silent" = some (.ref c_Silent)
  mk_Silent : MkN K c_Silent
  c_Neighbours : Addr
  cl_Neighbours : Cls K c_Neighbours
  g_Neighbours : mg "Neighbours" = some (.ref c_Neighbours)
  n_Neighbours_many : NoAttr K c_Neighbours "many"
  c_Strides : Addr
  cl_Strides : Cls K c_Strides
  g_Strides : mg "Strides" = some (.ref c_Strides)
  n_Strides_times : NoAttr K c_Strides "times"
  n_Strides_last : NoAttr K c_Strides "last"
  n_Strides_stride : NoAttr K c_Strides "stride"
  n_Strides_same : NoAttr K c_Strides "same"
  c_Pairs : Addr
  cl_Pairs : Cls K c_Pairs
  g_Pairs : mg "Pairs" = some (.ref c_Pairs)
  n_Pairs_many : NoAttr K c_Pairs "many"
  n_Pairs_last : NoAttr K c_Pairs "last"
  n_Pairs_followers : NoAttr K c_Pairs "followers"
  c_Both : Addr
  cl_Both : Cls K c_Both
  g_Both : mg "Both" = some (.ref c_Both)
  n_Both_one : NoAttr K c_Both "one"
  n_Both_other : NoAttr K c_Both "other"
  f_Silent_guess : Addr
  fd_Silent_guess : FuncData
  F_Silent_guess : Fun K "guess" "Silent.guess" s_Silent_guess f_Silent_guess fd_Silent_guess
  m_Silent_guess : Meth K c_Silent "guess" f_Silent_guess
  f_Neighbours_init : Addr
  fd_Neighbours_init : FuncData
  F_Neighbours_init : Fun K "__init__" "Neighbours.__init__" s_Neighbours_init f_Neighbours_init fd_Neighbours_init
  mk_Neighbours : Mk K c_Neighbours f_Neighbours_init
  f_Neighbours_guess : Addr
  fd_Neighbours_guess : FuncData
  F_Neighbours_guess : Fun K "guess" "Neighbours.guess" s_Neighbours_guess f_Neighbours_guess fd_Neighbours_guess
  m_Neighbours_guess : Meth K c_Neighbours "guess" f_Neighbours_guess
  f_Strides_init : Addr
  fd_Strides_init : FuncData
  F_Strides_init : Fun K "__init__" "Strides.__init__" s_Strides_init f_Strides_init fd_Strides_init
  mk_Strides : Mk K c_Strides f_Strides_init
  f_Strides_guess : Addr
  fd_Strides_guess : FuncData
  F_Strides_guess : Fun K "guess" "Strides.guess" s_Strides_guess f_Strides_guess fd_Strides_guess
  m_Strides_guess : Meth K c_Strides "guess" f_Strides_guess
  f_Strides_count_stride : Addr
  fd_Strides_count_stride : FuncData
  F_Strides_count_stride : Fun K "count_stride" "Strides.count_stride" s_Strides_count_stride f_Strides_count_stride fd_Strides_count_stride
  m_Strides_count_stride : Meth K c_Strides "count_stride" f_Strides_count_stride
  f_Pairs_init : Addr
  fd_Pairs_init : FuncData
  F_Pairs_init : Fun K "__init__" "Pairs.__init__" s_Pairs_init f_Pairs_init fd_Pairs_init
  mk_Pairs : Mk K c_Pairs f_Pairs_init
  f_Pairs_guess : Addr
  fd_Pairs_guess : FuncData
  F_Pairs_guess : Fun K "guess" "Pairs.guess" s_Pairs_guess f_Pairs_guess fd_Pairs_guess
  m_Pairs_guess : Meth K c_Pairs "guess" f_Pairs_guess
  f_Pairs_put_behind : Addr
  fd_Pairs_put_behind : FuncData
  F_Pairs_put_behind : Fun K "put_behind" "Pairs.put_behind" s_Pairs_put_behind f_Pairs_put_behind fd_Pairs_put_behind
  m_Pairs_put_behind : Meth K c_Pairs "put_behind" f_Pairs_put_behind
  f_Both_init : Addr
  fd_Both_init : FuncData
  F_Both_init : Fun K "__init__" "Both.__init__" s_Both_init f_Both_init fd_Both_init
  mk_Both : Mk K c_Both f_Both_init
  f_Both_guess : Addr
  fd_Both_guess : FuncData
  F_Both_guess : Fun K "guess" "Both.guess" s_Both_guess f_Both_guess fd_Both_guess
  m_Both_guess : Meth K c_Both "guess" f_Both_guess
  f_is_guesser : Addr
  fd_is_guesser : FuncData
  F_is_guesser : Fun K "is_guesser" "is_guesser" s_is_guesser f_is_guesser fd_is_guesser
  g_is_guesser : mg "is_guesser" = some (.ref f_is_guesser)
  f_check_guesser : Addr
  fd_check_guesser : FuncData
  F_check_guesser : Fun K "check_guesser" "check_guesser" s_check_guesser f_check_guesser fd_check_guesser
  g_check_guesser : mg "check_guesser" = some (.ref f_check_guesser)
  f_begun : Addr
  fd_begun : FuncData
  F_begun : Fun K "begun" "begun" s_begun f_begun fd_begun
  g_begun : mg "begun" = some (.ref f_begun)
  f_guesses : Addr
  fd_guesses : FuncData
  F_guesses : Fun K "guesses" "guesses" s_guesses f_guesses fd_guesses
  g_guesses : mg "guesses" = some (.ref f_guesses)
  f_law_taken : Addr
  fd_law_taken : FuncData
  F_law_taken : Fun K "_law_taken" "_law_taken" s_law_taken f_law_taken fd_law_taken
  g_law_taken : mg "_law_taken" = some (.ref f_law_taken)
  f_law_alike : Addr
  fd_law_alike : FuncData
  F_law_alike : Fun K "_law_alike" "_law_alike" s_law_alike f_law_alike fd_law_alike
  g_law_alike : mg "_law_alike" = some (.ref f_law_alike)
  f_law_guesser : Addr
  fd_law_guesser : FuncData
  F_law_guesser : Fun K "_law_guesser" "_law_guesser" s_law_guesser f_law_guesser fd_law_guesser
  g_law_guesser : mg "_law_guesser" = some (.ref f_law_guesser)
  f_law_places : Addr
  fd_law_places : FuncData
  F_law_places : Fun K "_law_places" "_law_places" s_law_places f_law_places fd_law_places
  g_law_places : mg "_law_places" = some (.ref f_law_places)
  f_law_guessed : Addr
  fd_law_guessed : FuncData
  F_law_guessed : Fun K "_law_guessed" "_law_guessed" s_law_guessed f_law_guessed fd_law_guessed
  g_law_guessed : mg "_law_guessed" = some (.ref f_law_guessed)
  f_law : Addr
  fd_law : FuncData
  F_law : Fun K "law" "law" s_law f_law fd_law
  g_law : mg "law" = some (.ref f_law)
  t_MOST_BOTHS : Tok
  k_MOST_BOTHS : mg "MOST_BOTHS" = some (.int 3 t_MOST_BOTHS)
  z_bool : mg "bool" = none
  z_int : mg "int" = none
  z_isinstance : mg "isinstance" = none
  z_len : mg "len" = none
  z_list : mg "list" = none
  z_max : mg "max" = none
  z_range : mg "range" = none
  z_str : mg "str" = none
  z_tuple : mg "tuple" = none
theorem b_Silent_guess {K : PySem.W.Frag} {mg : Str → Option Value} (T : Top K mg) : Binds K T.fd_Silent_guess ["self", "place"] [] := T.F_Silent_guess.binds (ps := ["self", "place"]) fun _ _ _ _ _ _ us hl => match us, hl with | [_, _], _ => rfl
theorem b_Neighbours_init {K : PySem.W.Frag} {mg : Str → Option Value} (T : Top K mg) : Binds K T.fd_Neighbours_init ["self", "many"] [] := T.F_Neighbours_init.binds (ps := ["self", "many"]) fun _ _ _ _ _ _ us hl => match us, hl with | [_, _], _ => rfl
theorem b_Neighbours_guess {K : PySem.W.Frag} {mg : Str → Option Value} (T : Top K mg) : Binds K T.fd_Neighbours_guess ["self", "place"] [] := T.F_Neighbours_guess.binds (ps := ["self", "place"]) fun _ _ _ _ _ _ us hl => match us, hl with | [_, _], _ => rfl
theorem b_Strides_init {K : PySem.W.Frag} {mg : Str → Option Value} (T : Top K mg) : Binds K T.fd_Strides_init ["self", "times"] [] := T.F_Strides_init.binds (ps := ["self", "times"]) fun _ _ _ _ _ _ us hl => match us, hl with | [_, _], _ => rfl
theorem b_Strides_guess {K : PySem.W.Frag} {mg : Str → Option Value} (T : Top K mg) : Binds K T.fd_Strides_guess ["self", "place"] [] := T.F_Strides_guess.binds (ps := ["self", "place"]) fun _ _ _ _ _ _ us hl => match us, hl with | [_, _], _ => rfl
theorem b_Strides_count_stride {K : PySem.W.Frag} {mg : Str → Option Value} (T : Top K mg) : Binds K T.fd_Strides_count_stride ["self", "stride"] [] := T.F_Strides_count_stride.binds (ps := ["self", "stride"]) fun _ _ _ _ _ _ us hl => match us, hl with | [_, _], _ => rfl
theorem b_Pairs_init {K : PySem.W.Frag} {mg : Str → Option Value} (T : Top K mg) : Binds K T.fd_Pairs_init ["self", "many"] [] := T.F_Pairs_init.binds (ps := ["self", "many"]) fun _ _ _ _ _ _ us hl => match us, hl with | [_, _], _ => rfl
theorem b_Pairs_guess {K : PySem.W.Frag} {mg : Str → Option Value} (T : Top K mg) : Binds K T.fd_Pairs_guess ["self", "place"] [] := T.F_Pairs_guess.binds (ps := ["self", "place"]) fun _ _ _ _ _ _ us hl => match us, hl with | [_, _], _ => rfl
theorem b_Pairs_put_behind {K : PySem.W.Frag} {mg : Str → Option Value} (T : Top K mg) : Binds K T.fd_Pairs_put_behind ["self", "earlier", "place"] [] := T.F_Pairs_put_behind.binds (ps := ["self", "earlier", "place"]) fun _ _ _ _ _ _ us hl => match us, hl with | [_, _, _], _ => rfl
theorem b_Both_init {K : PySem.W.Frag} {mg : Str → Option Value} (T : Top K mg) : Binds K T.fd_Both_init ["self", "one", "other"] [] := T.F_Both_init.binds (ps := ["self", "one", "other"]) fun _ _ _ _ _ _ us hl => match us, hl with | [_, _, _], _ => rfl
theorem b_Both_guess {K : PySem.W.Frag} {mg : Str → Option Value} (T : Top K mg) : Binds K T.fd_Both_guess ["self", "place"] [] := T.F_Both_guess.binds (ps := ["self", "place"]) fun _ _ _ _ _ _ us hl => match us, hl with | [_, _], _ => rfl
theorem b_is_guesser {K : PySem.W.Frag} {mg : Str → Option Value} (T : Top K mg) : Binds K T.fd_is_guesser ["guesser", "boths"] [] := T.F_is_guesser.binds (ps := ["guesser", "boths"]) fun _ _ _ _ _ _ us hl => match us, hl with | [_, _], _ => rfl
theorem b_check_guesser {K : PySem.W.Frag} {mg : Str → Option Value} (T : Top K mg) : Binds K T.fd_check_guesser ["guesser"] [] := T.F_check_guesser.binds (ps := ["guesser"]) fun _ _ _ _ _ _ us hl => match us, hl with | [_], _ => rfl
theorem b_begun {K : PySem.W.Frag} {mg : Str → Option Value} (T : Top K mg) : Binds K T.fd_begun ["guesser"] [] := T.F_begun.binds (ps := ["guesser"]) fun _ _ _ _ _ _ us hl => match us, hl with | [_], _ => rfl
theorem b_guesses {K : PySem.W.Frag} {mg : Str → Option Value} (T : Top K mg) : Binds K T.fd_guesses ["guesser", "places"] [] := T.F_guesses.binds (ps := ["guesser", "places"]) fun _ _ _ _ _ _ us hl => match us, hl with | [_, _], _ => rfl
theorem b_law_taken {K : PySem.W.Frag} {mg : Str → Option Value} (T : Top K mg) : Binds K T.fd_law_taken ["_law_row", "_law_many"] [] := T.F_law_taken.binds (ps := ["_law_row", "_law_many"]) fun _ _ _ _ _ _ us hl => match us, hl with | [_, _], _ => rfl
theorem b_law_alike {K : PySem.W.Frag} {mg : Str → Option Value} (T : Top K mg) : Binds K T.fd_law_alike ["_law_found", "_law_due"] [] := T.F_law_alike.binds (ps := ["_law_found", "_law_due"]) fun _ _ _ _ _ _ us hl => match us, hl with | [_, _], _ => rfl
theorem b_law_guesser {K : PySem.W.Frag} {mg : Str → Option Value} (T : Top K mg) : Binds K T.fd_law_guesser ["_law_row", "_law_within"] [] := T.F_law_guesser.binds (ps := ["_law_row", "_law_within"]) fun _ _ _ _ _ _ us hl => match us, hl with | [_, _], _ => rfl
theorem b_law_places {K : PySem.W.Frag} {mg : Str → Option Value} (T : Top K mg) : Binds K T.fd_law_places ["_law_row", "_law_places_here", "_law_most"] [] := T.F_law_places.binds (ps := ["_law_row", "_law_places_here", "_law_most"]) fun _ _ _ _ _ _ us hl => match us, hl with | [_, _, _], _ => rfl
theorem b_law_guessed {K : PySem.W.Frag} {mg : Str → Option Value} (T : Top K mg) : Binds K T.fd_law_guessed ["_law_guesser_here", "_law_places_here"] [] := T.F_law_guessed.binds (ps := ["_law_guesser_here", "_law_places_here"]) fun _ _ _ _ _ _ us hl => match us, hl with | [_, _], _ => rfl
theorem b_law {K : PySem.W.Frag} {mg : Str → Option Value} (T : Top K mg) : Binds K T.fd_law ["_law_script"] [] := T.F_law.binds (ps := ["_law_script"]) fun _ _ _ _ _ _ us hl => match us, hl with | [_], _ => rfl
/-! ### the guessers' defs keep their promises -/
def ca {K : PySem.W.Frag} {mg : Str → Option Value} (T : Top K mg) : CA := ⟨T.c_Silent, T.c_Neighbours, T.c_Strides, T.c_Pairs, T.c_Both⟩
theorem gf {K : PySem.W.Frag} {mg : Str → Option Value} (T : Top K mg) : GF K (ca T) :=
  ⟨T.cl_Neighbours, T.cl_Strides, T.cl_Pairs, T.cl_Both, T.n_Neighbours_many, T.n_Strides_times, T.n_Strides_last, T.n_Strides_stride, T.n_Strides_same, T.n_Pairs_many, T.n_Pairs_last, T.n_Pairs_followers, T.n_Both_one, T.n_Both_other⟩
section
variable {P : Program} {w : World} {K : PySem.W.Frag} {mg : Str → Option Value} {base : Heap}
structure OfK (P : Program) (w : World) (K : PySem.W.Frag) (mg : Str → Option Value) (base : Heap) (k : Nat) (m : Str) (sp : Sp) (C : Addr) : Prop where
  ex : ∃ (f : Addr) (fd : FuncData) (ps : List Str), Cls K C ∧ Meth K C m f ∧ FnOk P w K mg base CX0 k f fd ps sp ∧ Binds K fd ps []
theorem OfK.of {X : Cx} {k : Nat} {m : Str} {sp : Sp} {C : Addr} (h : OfK X.prog X.w X.K X.mg X.base k m sp C) (hr : Room k X.A) : Of X CX0 E0 m sp C := by
  obtain ⟨f, fd, ps, c, hm, F, hb⟩ := h.ex
  exact ⟨f, fd, k, ps, c, hm, F, hr, hb, pass0⟩
/-- nothing can be asked of it -/
theorem none_ok {f : Addr} {fd : FuncData} {ps : List Str} {sp : Sp} {k : Nat} (no : ∀ vs H Q E, ¬ sp vs H Q E) : FnOk P w K mg base CX0 k f fd ps sp :=
  ⟨fun vs H Q E h => absurd h (no vs H Q E), fun A outer s H args us vs Q E _ _ _ _ h => absurd h (no vs H Q E)⟩
theorem ln_made {C : Addr} {args : List V} {fs : List (Str × V)} {vs : List V} {H : Hp} {Q : VK} {E : XK} (h : spMade C args fs vs H Q E) : vs.length = args.length + 1 := by
  obtain ⟨p, dx, rfl, _⟩ := h
  rfl
theorem ln_guess {c : CA} {n : Nat} {i : Lab} {vs : List V} {H : Hp} {Q : VK} {E : XK} (h : spGuessL c n i vs H Q E) : vs.length = 2 := by
  obtain ⟨p, x, s, M, N, _, rfl, _⟩ := h
  rfl
theorem ok_Neighbours_init (T : Top K mg) : FnOk P w K mg base CX0 1 T.f_Neighbours_init T.fd_Neighbours_init ["self", "many"] (spNI (ca T)) := by
  refine T.F_Neighbours_init.ok sc_Neighbours_init (fun vs H Q E h => by obtain ⟨m, h⟩ := h; exact ln_made h) (fun cdv A outer s H vs Q E hr h => ⟨t_Neighbours_init K, PSs.nox ?_, by obtain ⟨m, h⟩ := h; exact pu_Neighbours_init (gf T) h⟩)
  have hu := hu_of hr; exact pss_one (ps_fld (pv 0) (pv 1) rfl)
theorem ok_Strides_init (T : Top K mg) : FnOk P w K mg base CX0 1 T.f_Strides_init T.fd_Strides_init ["self", "times"] (spSI (ca T)) := by
  refine T.F_Strides_init.ok sc_Strides_init (fun vs H Q E h => by obtain ⟨m, h⟩ := h; exact ln_made h) (fun cdv A outer s H vs Q E hr h => ⟨t_Strides_init K, PSs.nox ?_, by obtain ⟨m, h⟩ := h; exact pu_Strides_init (gf T) h⟩)
  have hu := hu_of hr; exact pss_cons (ps_fld (pv 0) (pv 1) rfl)   (pss_cons (ps_fld (pv 0) (pe_non) rfl)   (pss_cons (ps_fld (pv 0) (pe_int) rfl)   (pss_one (ps_fld (pv 0) (pe_int) rfl))))
theorem ok_Pairs_init (T : Top K mg) : FnOk P w K mg base CX0 1 T.f_Pairs_init T.fd_Pairs_init ["self", "many"] (spPairsInit (ca T)) := by
  refine T.F_Pairs_init.ok sc_Pairs_init (fun vs H Q E h => by obtain ⟨p, dx, m, rfl, _⟩ := h; rfl) (fun cdv A outer s H vs Q E hr h => ⟨t_Pairs_init K, PSs.nox ?_, pu_Pairs_init (gf T) h⟩)
  have hu := hu_of hr; exact pss_cons (ps_fld (pv 0) (pv 1) rfl)   (pss_cons (ps_fld (pv 0) (pe_non) rfl)   (pss_one (ps_fld (pv 0) (pe_dnewK) rfl)))
theorem ok_Both_init (T : Top K mg) : FnOk P w K mg base CX0 1 T.f_Both_init T.fd_Both_init ["self", "one", "other"] (spBI (ca T)) := by
  refine T.F_Both_init.ok sc_Both_init (fun vs H Q E h => by obtain ⟨x, y, h⟩ := h; exact ln_made h) (fun cdv A outer s H vs Q E hr h => ⟨t_Both_init K, PSs.nox ?_, by obtain ⟨x, y, h⟩ := h; exact pu_Both_init (gf T) h⟩)
  have hu := hu_of hr; exact pss_cons (ps_fld (pv 0) (pv 1) rfl)   (pss_one (ps_fld (pv 0) (pv 2) rfl))
theorem ok_Silent_guess (T : Top K mg) (n : Nat) : FnOk P w K mg base CX0 1 T.f_Silent_guess T.fd_Silent_guess ["self", "place"] (spGuessL (ca T) n .silent) := by
  refine T.F_Silent_guess.ok sc_Silent_guess (fun vs H Q E h => ln_guess h) (fun cdv A outer s H vs Q E hr h => ⟨t_Silent_guess, PSs.nox ?_, ?_⟩)
  · have hu := hu_of hr; exact pss_one (ps_ret (pe_lst (pa_nil)))
  · obtain ⟨p, x, st, M, N, el, rfl, ga, dom, _, _, _, k⟩ := h
    cases st with
    | silent =>
      obtain ⟨dx, hp, mp⟩ := ga
      exact pu_Silent_guess (c := ca T) (E := E) (n := n) ⟨x, p, dx, M, N, rfl, hp, mp, dom, k⟩
    | _ => cases el
theorem ok_Neighbours_guess (T : Top K mg) (n : Nat) : FnOk P w K mg base CX0 1 T.f_Neighbours_guess T.fd_Neighbours_guess ["self", "place"] (spGuessL (ca T) n .neigh) := by
  refine T.F_Neighbours_guess.ok sc_Neighbours_guess (fun vs H Q E h => ln_guess h) (fun cdv A outer s H vs Q E hr h => ⟨t_Neighbours_guess K, PSs.nox ?_, ?_⟩)
  · have hu := hu_of hr; exact pss_one (ps_ret (pe_lc (own := [("step", 2)]) (g := gName 2) (tt := tYes) (by rfl) sc_Neighbours_guess.nd (pi_range2 (by rfl) T.z_range (pa_cons (pe_int) (pa_cons (pe_op op_add (pe_fld (pv 0) rfl) (pe_int)) (pa_nil)))) (blkOk_by (own := [("step", 2)]) (N := ["self", "place", "step"]) (sc := defScope s_Neighbours_guess) (by decide +kernel)) (fun _ _ _ _ _ => pg_name (i := 2) sc_Neighbours_guess.nd rfl (.inl rfl)) (fun _ _ _ _ _ => pts_nil) (fun _ _ _ _ _ => pe_op op_add (pv 1) (pv 2))))
  · obtain ⟨p, x, st, M, N, el, rfl, ga, dom, _, hg, _, k⟩ := h
    cases st with
    | neigh m =>
      obtain ⟨dx, hp, mp⟩ := ga
      exact pu_Neighbours_guess (gf T) (E := E) ⟨x, m, p, dx, M, N, rfl, hp, mp, dom, hg.1, hg.2, k⟩
    | _ => cases el
theorem ok_Strides_count_stride (T : Top K mg) : FnOk P w K mg base CX0 1 T.f_Strides_count_stride T.fd_Strides_count_stride ["self", "stride"] (spCount (ca T)) := by
  refine T.F_Strides_count_stride.ok sc_Strides_count_stride (fun vs H Q E h => by obtain ⟨p, dx, d, t, l, s, k, rfl, _⟩ := h; rfl) (fun cdv A outer s H vs Q E hr h => ⟨t_Strides_count_stride K, PSs.nox ?_, pu_Strides_count_stride (gf T) h⟩)
  have hu := hu_of hr; exact pss_cons (ps_fld (pv 0) (pe_ifExp (pt_cmpR op_eq (pv 1) (pe_fld (pv 0) rfl) (nomark _)) (pe_op op_add (pe_fld (pv 0) rfl) (pe_int)) (pe_int)) rfl)   (pss_one (ps_fld (pv 0) (pv 1) rfl))
theorem ok_Strides_guess (T : Top K mg) (n : Nat) : FnOk P w K mg base CX0 2 T.f_Strides_guess T.fd_Strides_guess ["self", "place"] (spGuessL (ca T) n .strid) := by
  have G_Strides_count_stride := ok_Strides_count_stride (P := P) (w := w) (base := base) T
  refine T.F_Strides_guess.ok sc_Strides_guess (fun vs H Q E h => ln_guess h) (fun cdv A outer s H vs Q E hr h => ⟨t_Strides_guess K T.c_Strides (spCount (ca T)), PSs.nox ?_, ?_⟩)
  · have hu := hu_of hr; exact pss_cons (ps_if (pt_cmp (pc_notN (pe_fld (pv 0) rfl)) rfl) (pss_one (ps_expr (pe_meth (pv 0) T.cl_Strides T.m_Strides_count_stride G_Strides_count_stride (hr.mono (by omega)) (b_Strides_count_stride T) .nil pass0 (pa_cons (pe_op op_sub (pv 1) (pe_fld (pv 0) rfl)) (pa_nil))))) (pss_nil))   (pss_cons (ps_fld (pv 0) (pv 1) rfl)   (pss_cons (ps_if (PW.pt (pw_or (pt_cmpR op_eq (pe_fld (pv 0) rfl) (pe_int) (nomark _)) (pw_or1 (pt_cmpR op_lt (pe_fld (pv 0) rfl) (pe_fld (pv 0) rfl) (nomark _))))) (pss_one (ps_ret (pe_lst (pa_nil)))) (pss_nil))   (pss_one (ps_ret (pe_lst (pa_cons (pe_op op_add (pv 1) (pe_fld (pv 0) rfl)) (pa_nil)))))))
  · obtain ⟨p, x, st, M, N, el, rfl, ga, dom, _, _, _, k⟩ := h
    cases st with
    | strid t l sd sm =>
      obtain ⟨dx, hp, mp⟩ := ga
      exact pu_Strides_guess (gf T) (E := E) ⟨x, t, sd, sm, l, p, dx, M, N, rfl, hp, mp, dom, k⟩
    | _ => cases el
theorem ok_Pairs_put_behind (T : Top K mg) : FnOk P w K mg base CX0 1 T.f_Pairs_put_behind T.fd_Pairs_put_behind ["self", "earlier", "place"] (spPut (ca T)) := by
  refine T.F_Pairs_put_behind.ok sc_Pairs_put_behind (fun vs H Q E h => by obtain ⟨p, dx, d, q, x, m, l, kvs, f, M, rfl, _⟩ := h; rfl) (fun cdv A outer s H vs Q E hr h => ⟨t_Pairs_put_behind K, PSs.nox ?_, pu_Pairs_put_behind (gf T) h⟩)
  have hu := hu_of hr; exact pss_cons (ps_setLc (i := 3) (own := [("other", 4)]) (g := gName 4) (tt := tTest (tOp (rNe) (tVar 4) (tVar 2))) (by rfl) sc_Pairs_put_behind.nd rfl rfl (sw_true rfl rfl rfl (by decide +kernel)) (pi_list (pe_dget2 hu (pe_fld (pv 0) rfl) (pv 1) (pe_lst (pa_nil)) ⟨rfl, rfl, rfl, rfl⟩)) (blkOk_by (own := [("other", 4)]) (N := ["self", "earlier", "place", "others", "other"]) (sc := defScope s_Pairs_put_behind) (by decide +kernel)) (fun _ _ _ _ _ => pg_name (i := 4) sc_Pairs_put_behind.nd rfl (.inl rfl)) (fun _ _ _ _ _ => pts_one (pt_cmpR op_ne (pv 4) (pv 2) (nomark _))) (fun _ _ _ _ _ => pv 4))   (pss_one (ps_dput hu (pe_fld (pv 0) rfl) (pv 1) (pe_slice sl_list (pe_lst (pa_cons (pv 2) (pa_star (pv 3) (pa_nil)))) (po_none) (po_some (pe_fld (pv 0) rfl))) rfl))
theorem ok_Pairs_guess (T : Top K mg) (n : Nat) : FnOk P w K mg base CX0 2 T.f_Pairs_guess T.fd_Pairs_guess ["self", "place"] (spGuessL (ca T) n .pairs) := by
  have G_Pairs_put_behind := ok_Pairs_put_behind (P := P) (w := w) (base := base) T
  refine T.F_Pairs_guess.ok sc_Pairs_guess (fun vs H Q E h => ln_guess h) (fun cdv A outer s H vs Q E hr h => ⟨t_Pairs_guess K T.c_Pairs (spPut (ca T)), PSs.nox ?_, ?_⟩)
  · have hu := hu_of hr; exact pss_cons (ps_if (pt_cmp (pc_notN (pe_fld (pv 0) rfl)) rfl) (pss_one (ps_expr (pe_meth (pv 0) T.cl_Pairs T.m_Pairs_put_behind G_Pairs_put_behind (hr.mono (by omega)) (b_Pairs_put_behind T) .nil pass0 (pa_cons (pe_fld (pv 0) rfl) (pa_cons (pv 1) (pa_nil)))))) (pss_nil))   (pss_cons (ps_fld (pv 0) (pv 1) rfl)   (pss_one (ps_ret (pe_callTy call_list_of (by rfl) T.z_list (by decide +kernel) (pa_cons (pe_dget2 hu (pe_fld (pv 0) rfl) (pv 1) (pe_lst (pa_nil)) ⟨rfl, rfl, rfl, rfl⟩) (pa_nil))))))
  · obtain ⟨p, x, st, M, N, el, rfl, ga, dom, _, hg, hN, k⟩ := h
    cases st with
    | pairs m l f => exact pu_Pairs_guess (gf T) (E := E) ⟨x, m, l, f, p, M, N, rfl, ga, dom, hg, hN, k⟩
    | _ => cases el
theorem ok_Both_guess (T : Top K mg) (n : Nat) (hn : n ≤ 10) (OF_guess : ∀ i, OfK P w K mg base (2 + n) "guess" (spGuessL (ca T) n i) ((ca T).at i)) : FnOk P w K mg base CX0 (2 + n + 1) T.f_Both_guess T.fd_Both_guess ["self", "place"] (spGuessL (ca T) (n + 1) .both) := by
  refine T.F_Both_guess.ok sc_Both_guess (fun vs H Q E h => ln_guess h) (fun cdv A outer s H vs Q E hr h => ⟨t_Both_guess K (ca T).at (spGuessL (ca T) n), PSs.nox ?_, pu_Both_guess (gf T) hn h⟩)
  have hu := hu_of hr; exact pss_cons (ps_set (i := 2) sc_Both_guess.nd rfl (.inr rfl) (pe_methOf (fun i => OfK.of (OF_guess i) (hr.mono (by omega))) (pe_fld (pv 0) rfl) (pa_cons (pv 1) (pa_nil))))   (pss_cons (ps_set (i := 3) sc_Both_guess.nd rfl (.inl rfl) (pe_methOf (fun i => OfK.of (OF_guess i) (hr.mono (by omega))) (pe_fld (pv 0) rfl) (pa_cons (pv 1) (pa_nil))))   (pss_one (ps_ret (pe_op op_cat (pv 2) (pe_lc (own := [("guessed", 4)]) (g := gName 4) (tt := tTest (tOp (rIn K true) (tVar 4) (tVar 2))) (by rfl) sc_Both_guess.nd (pi_list (pv 3)) (blkOk_by (own := [("guessed", 4)]) (N := ["self", "place", "first", "second", "guessed"]) (sc := defScope s_Both_guess) (by decide +kernel)) (fun _ _ _ _ _ => pg_name (i := 4) sc_Both_guess.nd rfl (.inl rfl)) (fun _ _ _ _ _ => pts_one (pt_cmpR op_notIn_seq (pv 4) (pv 2) (by rfl))) (fun _ _ _ _ _ => pv 4))))))
theorem of_guess (T : Top K mg) : ∀ n, n ≤ 10 → ∀ i, OfK P w K mg base (2 + n) "guess" (spGuessL (ca T) n i) ((ca T).at i)
  | n, _, .silent => ⟨_, _, _, T.cl_Silent, T.m_Silent_guess, (ok_Silent_guess T n).mono (by omega), b_Silent_guess T⟩
  | n, _, .neigh => ⟨_, _, _, T.cl_Neighbours, T.m_Neighbours_guess, (ok_Neighbours_guess T n).mono (by omega), b_Neighbours_guess T⟩
  | n, _, .strid => ⟨_, _, _, T.cl_Strides, T.m_Strides_guess, (ok_Strides_guess T n).mono (by omega), b_Strides_guess T⟩
  | n, _, .pairs => ⟨_, _, _, T.cl_Pairs, T.m_Pairs_guess, (ok_Pairs_guess T n).mono (by omega), b_Pairs_guess T⟩
  | 0, _, .both => ⟨_, _, _, T.cl_Both, T.m_Both_guess, none_ok (fun vs H Q E h => by
      obtain ⟨p, x, s, M, N, el, _, _, _, hd, _⟩ := h
      cases s with
      | both a b =>
        have hd : max (deep a) (deep b) + 1 ≤ 0 := hd
        omega
      | _ => cases el), b_Both_guess T⟩
  | n + 1, hn, .both => ⟨_, _, _, T.cl_Both, T.m_Both_guess, ok_Both_guess T n (by omega) (of_guess T n (by omega)), b_Both_guess T⟩
theorem ok_is_guesser (T : Top K mg) : ∀ n, FnOk P w K mg base CX0 n T.f_is_guesser T.fd_is_guesser ["guesser", "boths"] (spIsG n)
  | 0 => none_ok (fun vs H Q E h => by obtain ⟨a, d, g, _, _, _, _, hn, _⟩ := h; omega)
  | n + 1 => by
    have G_is_guesser := ok_is_guesser T n
    refine T.F_is_guesser.ok sc_is_guesser (fun vs H Q E h => by obtain ⟨a, d, g, rfl, _⟩ := h; rfl) (fun cdv A outer s H vs Q E hr h => ⟨t_is_guesser K (spIsG n), PSs.nox ?_, pu_is_guesser h⟩)
    have hu := hu_of hr; exact pss_cons (ps_if (pt_not (pt_val (pe_callB call_isi (by rfl) T.z_isinstance (by decide +kernel) (pa_cons (pv 0) (pa_cons (pe_bltn (v := .ty "tuple") (by rfl) T.z_tuple (by decide +kernel) rfl) (pa_nil)))))) (pss_one (ps_ret (pe_bl))) (pss_nil))   (pss_one (ps_match (pv 0) (pcs_cons sc_is_guesser.nd (pm_seq (by rfl) (pms_cons (pm_val (pe_str)) (pms_nil))) (.nil) (pss_one (ps_ret (pe_bl)))     (pcs_cons sc_is_guesser.nd (pm_seq (by rfl) (pms_cons (pm_val (pe_str)) (pms_cons (pm_cap) (pms_nil)))) (.cons ⟨rfl, (.inl rfl), .inr rfl⟩ (.nil)) (pss_one (ps_ret (pe_cmpR op_in_seq (pv 2) (pe_tup (pa_cons (pe_int) (pa_cons (pe_int) (pa_cons (pe_int) (pa_nil))))) (by rfl))))     (pcs_cons sc_is_guesser.nd (pm_seq (by rfl) (pms_cons (pm_val (pe_str)) (pms_cons (pm_cap) (pms_nil)))) (.cons ⟨rfl, (.inl rfl), .inr rfl⟩ (.nil)) (pss_one (ps_ret (pe_cmpR op_in_seq (pv 3) (pe_tup (pa_cons (pe_int) (pa_cons (pe_int) (pa_cons (pe_int) (pa_nil))))) (by rfl))))     (pcs_cons sc_is_guesser.nd (pm_seq (by rfl) (pms_cons (pm_val (pe_str)) (pms_cons (pm_cap) (pms_nil)))) (.cons ⟨rfl, (.inl rfl), .inr rfl⟩ (.nil)) (pss_one (ps_ret (pe_cmpR op_in_seq (pv 2) (pe_tup (pa_cons (pe_int) (pa_cons (pe_int) (pa_nil)))) (by rfl))))     (pcs_cons sc_is_guesser.nd (pm_seq (by rfl) (pms_cons (pm_val (pe_str)) (pms_cons (pm_cap) (pms_cons (pm_cap) (pms_nil))))) (.cons ⟨rfl, (.inl rfl), .inr rfl⟩ (.cons ⟨rfl, (.inl rfl), .inr rfl⟩ (.nil))) (pss_one (ps_ret (pe_and (pe_cmpR op_lt (pv 1) (pe_glob rfl T.k_MOST_BOTHS ⟨_, rfl⟩) (nomark _)) (pe_and (pe_call G_is_guesser (hr.mono (by omega)) rfl (T.g_is_guesser) (T.F_is_guesser.kp) (b_is_guesser T) .nil pass0 (pa_cons (pv 4) (pa_cons (pe_op op_add (pv 1) (pe_int)) (pa_nil)))) (pe_one (pe_call G_is_guesser (hr.mono (by omega)) rfl (T.g_is_guesser) (T.F_is_guesser.kp) (b_is_guesser T) .nil pass0 (pa_cons (pv 5) (pa_cons (pe_op op_add (pv 1) (pe_int)) (pa_nil)))))))))     (pcs_cons sc_is_guesser.nd (pm_any) (.nil) (pss_one (ps_ret (pe_bl)))     (pcs_nil)))))))))
theorem ok_check_guesser (T : Top K mg) : FnOk P w K mg base CX0 5 T.f_check_guesser T.fd_check_guesser ["guesser"] spCheck := by
  have G_is_guesser := ok_is_guesser (P := P) (w := w) (base := base) T 4
  refine T.F_check_guesser.ok sc_check_guesser (fun vs H Q E h => by obtain ⟨a, g, rfl, _⟩ := h; rfl) (fun cdv A outer s H vs Q E hr h => ⟨t_check_guesser K (spIsG 4), PSs.nox ?_, pu_check_guesser h⟩)
  have hu := hu_of hr; exact pss_one (ps_if (pt_not (pt_val (pe_call G_is_guesser (hr.mono (by omega)) rfl (T.g_is_guesser) (T.F_is_guesser.kp) (b_is_guesser T) .nil pass0 (pa_cons (pv 0) (pa_cons (pe_int) (pa_nil)))))) (pss_one (ps_never)) (pss_nil))
theorem ok_begun (T : Top K mg) : ∀ n, FnOk P w K mg base CX0 (n + 2) T.f_begun T.fd_begun ["guesser"] (spBegun (ca T) n)
  | 0 => none_ok (fun vs H Q E h => by obtain ⟨a, g, _, _, hn, _⟩ := h; omega)
  | n + 1 => by
    have G_begun := ok_begun T n
    have G_Neighbours_init := ok_Neighbours_init (P := P) (w := w) (base := base) T
    have G_Strides_init := ok_Strides_init (P := P) (w := w) (base := base) T
    have G_Pairs_init := ok_Pairs_init (P := P) (w := w) (base := base) T
    have G_Both_init := ok_Both_init (P := P) (w := w) (base := base) T
    refine T.F_begun.ok sc_begun (fun vs H Q E h => by obtain ⟨a, g, rfl, _⟩ := h; rfl) (fun cdv A outer s H vs Q E hr h => ⟨t_begun K T.c_Neighbours T.c_Strides T.c_Pairs T.c_Both T.c_Silent (spNI (ca T)) (spSI (ca T)) (spPairsInit (ca T)) (spBI (ca T)) (spBegun (ca T) n), PSs.nox ?_, pu_begun h⟩)
    have hu := hu_of hr; exact pss_one (ps_match (pv 0) (pcs_cons sc_begun.nd (pm_seq (by rfl) (pms_cons (pm_val (pe_str)) (pms_cons (pm_cap) (pms_nil)))) (.cons ⟨rfl, (.inl rfl), .inr rfl⟩ (.nil)) (pss_one (ps_ret (pe_make T.mk_Neighbours G_Neighbours_init (hr.mono (by omega)) rfl T.g_Neighbours (b_Neighbours_init T) .nil pass0 (pa_cons (pv 1) (pa_nil)))))     (pcs_cons sc_begun.nd (pm_seq (by rfl) (pms_cons (pm_val (pe_str)) (pms_cons (pm_cap) (pms_nil)))) (.cons ⟨rfl, (.inl rfl), .inr rfl⟩ (.nil)) (pss_one (ps_ret (pe_make T.mk_Strides G_Strides_init (hr.mono (by omega)) rfl T.g_Strides (b_Strides_init T) .nil pass0 (pa_cons (pv 2) (pa_nil)))))     (pcs_cons sc_begun.nd (pm_seq (by rfl) (pms_cons (pm_val (pe_str)) (pms_cons (pm_cap) (pms_nil)))) (.cons ⟨rfl, (.inl rfl), .inr rfl⟩ (.nil)) (pss_one (ps_ret (pe_make T.mk_Pairs G_Pairs_init (hr.mono (by omega)) rfl T.g_Pairs (b_Pairs_init T) .nil pass0 (pa_cons (pv 1) (pa_nil)))))     (pcs_cons sc_begun.nd (pm_seq (by rfl) (pms_cons (pm_val (pe_str)) (pms_cons (pm_cap) (pms_cons (pm_cap) (pms_nil))))) (.cons ⟨rfl, (.inl rfl), .inr rfl⟩ (.cons ⟨rfl, (.inl rfl), .inr rfl⟩ (.nil))) (pss_one (ps_ret (pe_make T.mk_Both G_Both_init (hr.mono (by omega)) rfl T.g_Both (b_Both_init T) .nil pass0 (pa_cons (pe_call G_begun (hr.mono (by omega)) rfl (T.g_begun) (T.F_begun.kp) (b_begun T) .nil pass0 (pa_cons (pv 3) (pa_nil))) (pa_cons (pe_call G_begun (hr.mono (by omega)) rfl (T.g_begun) (T.F_begun.kp) (b_begun T) .nil pass0 (pa_cons (pv 4) (pa_nil))) (pa_nil))))))     (pcs_cons sc_begun.nd (pm_any) (.nil) (pss_one (ps_ret (pe_makeN T.mk_Silent rfl T.g_Silent)))     (pcs_nil)))))))
theorem ok_guesses (T : Top K mg) : FnOk P w K mg base CX0 7 T.f_guesses T.fd_guesses ["guesser", "places"] (spGuesses K) := by
  have G_check_guesser := ok_check_guesser (P := P) (w := w) (base := base) T
  have G_begun := ok_begun (P := P) (w := w) (base := base) T 4
  have OF_guess := of_guess (P := P) (w := w) (base := base) T 3 (by omega)
  refine T.F_guesses.ok sc_guesses (fun vs H Q E h => by obtain ⟨a, l, g, ls, rfl, _⟩ := h; rfl) (fun cdv A outer s H vs Q E hr h => ⟨t_guesses K (ca T).at spCheck (spBegun (ca T) 4) (spGuessL (ca T) 3), PSs.nox ?_, pu_guesses h⟩)
  have hu := hu_of hr; exact pss_cons (ps_expr (pe_call G_check_guesser (hr.mono (by omega)) rfl (T.g_check_guesser) (T.F_check_guesser.kp) (b_check_guesser T) .nil pass0 (pa_cons (pv 0) (pa_nil))))   (pss_cons (ps_set (i := 2) sc_guesses.nd rfl (.inr rfl) (pe_call G_begun (hr.mono (by omega)) rfl (T.g_begun) (T.F_begun.kp) (b_begun T) .nil pass0 (pa_cons (pv 0) (pa_nil))))   (pss_one (ps_ret (pe_lc (own := [("place", 3)]) (g := gName 3) (tt := tYes) (by rfl) sc_guesses.nd (pi_list (pv 1)) (blkOk_by (own := [("place", 3)]) (N := ["guesser", "places", "told", "place"]) (sc := defScope s_guesses) (by decide +kernel)) (fun _ _ _ _ _ => pg_name (i := 3) sc_guesses.nd rfl (.inl rfl)) (fun _ _ _ _ _ => pts_nil) (fun _ _ _ _ _ => pe_methOf (fun i => OfK.of (OF_guess i) (hr.mono (by omega))) (pv 2) (pa_cons (pv 3) (pa_nil)))))))
end

/-! ### the law's own defs keep their promises -/
section
variable {P : Program} {w : World} {K : PySem.W.Frag} {mg : Str → Option Value} {base : Heap}
theorem ok_law_taken (T : Top K mg) : FnOk P w K mg base CX0 1 T.f_law_taken T.fd_law_taken ["_law_row", "_law_many"] (spTaken K) := by
  refine T.F_law_taken.ok sc_law_taken (fun vs H Q E h => by obtain ⟨r, m, rfl, _⟩ := h; rfl) (fun cdv A outer s H vs Q E hr h => ⟨t_law_taken K, PSs.nox ?_, pu_law_taken h⟩)
  have hu := hu_of hr; exact pss_cons (ps_asg (pe_op op_add (pe_ix ix_list (pv 0) (pe_int) (fun _ _ => rfl)) (pe_int)) (pg_sub (pv 0) (pe_int) set_list))   (pss_cons (ps_if (pt_cmpR op_gt (pe_ix ix_list (pv 0) (pe_int) (fun _ _ => rfl)) (pe_callB call_len_seq (by rfl) T.z_len PySem.boot_len (pa_cons (pe_ix ix_list (pv 0) (pe_int) (fun _ _ => rfl)) (pa_nil))) (nomark _)) (pss_cons (ps_asg (pe_op op_mod (pe_op op_add (pe_op op_mul (pe_ix ix_list (pv 0) (pe_int) (fun _ _ => rfl)) (pe_int)) (pe_int)) (pe_int)) (pg_sub (pv 0) (pe_int) set_list))   (pss_one (ps_ret (pe_op op_mod (pe_op op_fdiv (pe_ix ix_list (pv 0) (pe_int) (fun _ _ => rfl)) (pe_int)) (pv 1))))) (pss_nil))   (pss_cons (ps_set (i := 2) sc_law_taken.nd rfl (.inl rfl) (pe_ix ix_list (pe_ix ix_list (pv 0) (pe_int) (fun _ _ => rfl)) (pe_op op_sub (pe_ix ix_list (pv 0) (pe_int) (fun _ _ => rfl)) (pe_int)) (fun _ _ => rfl)))   (pss_cons (ps_asg (pe_op op_mod (pe_op op_add (pe_op op_add (pe_op op_mul (pe_ix ix_list (pv 0) (pe_int) (fun _ _ => rfl)) (pe_int)) (pv 2)) (pe_int)) (pe_int)) (pg_sub (pv 0) (pe_int) set_list))   (pss_one (ps_ret (pe_op op_mod (pv 2) (pv 1)))))))
theorem ok_law_guesser (T : Top K mg) : ∀ n, FnOk P w K mg base CX0 (n + 1) T.f_law_guesser T.fd_law_guesser ["_law_row", "_law_within"] (spLawGuesser K n)
  | 0 => none_ok (fun vs H Q E h => by obtain ⟨r, d, _, _, _, hn, _⟩ := h; omega)
  | n + 1 => by
    have G_law_guesser := ok_law_guesser T n
    have G_law_taken := ok_law_taken (P := P) (w := w) (base := base) T
    refine T.F_law_guesser.ok sc_law_guesser (fun vs H Q E h => by obtain ⟨r, d, rfl, _⟩ := h; rfl) (fun cdv A outer s H vs Q E hr h => ⟨t_law_guesser K (spTaken K) (spLawGuesser K n), PSs.nox ?_, pu_law_guesser h⟩)
    have hu := hu_of hr; exact pss_cons (ps_set (i := 2) sc_law_guesser.nd rfl (.inl rfl) (pe_call G_law_taken (hr.mono (by omega)) rfl (T.g_law_taken) (T.F_law_taken.kp) (b_law_taken T) .nil pass0 (pa_cons (pv 0) (pa_cons (pe_ix ix_list (pe_lst (pa_cons (pe_int) (pa_cons (pe_int) (pa_nil)))) (pe_callTy call_int1 (by rfl) T.z_int (by decide +kernel) (pa_cons (pe_cmpR op_gt (pv 1) (pe_int) (nomark _)) (pa_nil))) (fun _ _ => rfl)) (pa_nil)))))   (pss_cons (ps_if (pt_cmpR op_gt (pv 2) (pe_int) (nomark _)) (pss_cons (ps_set (i := 3) sc_law_guesser.nd rfl (.inl rfl) (pe_call G_law_guesser (hr.mono (by omega)) rfl (T.g_law_guesser) (T.F_law_guesser.kp) (b_law_guesser T) .nil pass0 (pa_cons (pv 0) (pa_cons (pe_op op_sub (pv 1) (pe_int)) (pa_nil)))))   (pss_one (ps_ret (pe_tup (pa_cons (pe_str) (pa_cons (pv 3) (pa_cons (pe_call G_law_guesser (hr.mono (by omega)) rfl (T.g_law_guesser) (T.F_law_guesser.kp) (b_law_guesser T) .nil pass0 (pa_cons (pv 0) (pa_cons (pe_op op_sub (pv 1) (pe_int)) (pa_nil)))) (pa_nil)))))))) (pss_nil))   (pss_cons (ps_set (i := 4) sc_law_guesser.nd rfl (.inl rfl) (pe_lst (pa_cons (pe_tup (pa_cons (pe_str) (pa_nil))) (pa_cons (pe_tup (pa_cons (pe_str) (pa_cons (pe_op op_add (pe_int) (pe_call G_law_taken (hr.mono (by omega)) rfl (T.g_law_taken) (T.F_law_taken.kp) (b_law_taken T) .nil pass0 (pa_cons (pv 0) (pa_cons (pe_int) (pa_nil))))) (pa_nil)))) (pa_cons (pe_tup (pa_cons (pe_str) (pa_cons (pe_op op_add (pe_int) (pe_call G_law_taken (hr.mono (by omega)) rfl (T.g_law_taken) (T.F_law_taken.kp) (b_law_taken T) .nil pass0 (pa_cons (pv 0) (pa_cons (pe_int) (pa_nil))))) (pa_nil)))) (pa_nil))))))   (pss_cons (ps_set (i := 4) sc_law_guesser.nd rfl (.inl rfl) (pe_op op_cat (pv 4) (pe_lst (pa_cons (pe_tup (pa_cons (pe_str) (pa_cons (pe_op op_add (pe_int) (pe_call G_law_taken (hr.mono (by omega)) rfl (T.g_law_taken) (T.F_law_taken.kp) (b_law_taken T) .nil pass0 (pa_cons (pv 0) (pa_cons (pe_int) (pa_nil))))) (pa_nil)))) (pa_cons (pe_tup (pa_cons (pe_str) (pa_cons (pe_int) (pa_nil)))) (pa_cons (pe_tup (pa_cons (pe_str) (pa_cons (pe_int) (pa_nil)))) (pa_nil)))))))   (pss_one (ps_ret (pe_ix ix_list (pv 4) (pv 2) (fun _ _ => rfl)))))))
theorem ok_law_places (T : Top K mg) : FnOk P w K mg base CX0 2 T.f_law_places T.fd_law_places ["_law_row", "_law_places_here", "_law_most"] (spLawPlaces K) := by
  have G_law_taken := ok_law_taken (P := P) (w := w) (base := base) T
  refine T.F_law_places.ok sc_law_places (fun vs H Q E h => by obtain ⟨r, p, m, rfl, _⟩ := h; rfl) (fun cdv A outer s H vs Q E hr h => ⟨t_law_places K (spTaken K), PSs.nox ?_, pu_law_places h⟩)
  have hu := hu_of hr; exact pss_cons (ps_set (i := 3) sc_law_places.nd rfl (.inl rfl) (pe_lst (pa_nil)))   (pss_cons (ps_set (i := 4) sc_law_places.nd rfl (.inl rfl) (pe_call G_law_taken (hr.mono (by omega)) rfl (T.g_law_taken) (T.F_law_taken.kp) (b_law_taken T) .nil pass0 (pa_cons (pv 0) (pa_cons (pv 1) (pa_nil)))))   (pss_cons (ps_set (i := 5) sc_law_places.nd rfl (.inl rfl) (pe_op op_sub (pe_call G_law_taken (hr.mono (by omega)) rfl (T.g_law_taken) (T.F_law_taken.kp) (b_law_taken T) .nil pass0 (pa_cons (pv 0) (pa_cons (pe_int) (pa_nil)))) (pe_int)))   (pss_cons (ps_for PassesOwn.never rfl (pi_range1 (by rfl) T.z_range (pa_cons (pe_call G_law_taken (hr.mono (by omega)) rfl (T.g_law_taken) (T.F_law_taken.kp) (b_law_taken T) .nil pass0 (pa_cons (pv 0) (pa_cons (pe_op op_add (pv 2) (pe_int)) (pa_nil)))) (pa_nil))) (pg_name (i := 6) sc_law_places.nd rfl (.inl rfl)) (pss_cons (ps_set (i := 7) sc_law_places.nd rfl (.inl rfl) (pe_call G_law_taken (hr.mono (by omega)) rfl (T.g_law_taken) (T.F_law_taken.kp) (b_law_taken T) .nil pass0 (pa_cons (pv 0) (pa_cons (pe_int) (pa_nil)))))   (pss_cons (ps_if (pt_cmpR op_eq (pv 7) (pe_int) (nomark _)) (pss_one (ps_set (i := 4) sc_law_places.nd rfl (.inl rfl) (pe_call G_law_taken (hr.mono (by omega)) rfl (T.g_law_taken) (T.F_law_taken.kp) (b_law_taken T) .nil pass0 (pa_cons (pv 0) (pa_cons (pv 1) (pa_nil)))))) (pss_nil))   (pss_cons (ps_if (pt_cmpR op_eq (pv 7) (pe_int) (nomark _)) (pss_one (ps_set (i := 5) sc_law_places.nd rfl (.inl rfl) (pe_op op_sub (pe_call G_law_taken (hr.mono (by omega)) rfl (T.g_law_taken) (T.F_law_taken.kp) (b_law_taken T) .nil pass0 (pa_cons (pv 0) (pa_cons (pe_int) (pa_nil)))) (pe_int)))) (pss_nil))   (pss_cons (ps_if (PW.pt (pw_and (pt_cmpR op_eq (pv 7) (pe_int) (nomark _)) (pw_and1 (pt_cmpR (op_neD hr.units) (pv 3) (pe_lst (pa_nil)) (nomark _))))) (pss_one (ps_set (i := 4) sc_law_places.nd rfl (.inl rfl) (pe_ix ix_list (pv 3) (pe_call G_law_taken (hr.mono (by omega)) rfl (T.g_law_taken) (T.F_law_taken.kp) (b_law_taken T) .nil pass0 (pa_cons (pv 0) (pa_cons (pe_callB call_len_seq (by rfl) T.z_len PySem.boot_len (pa_cons (pv 3) (pa_nil))) (pa_nil)))) (fun _ _ => rfl)))) (pss_nil))   (pss_cons (ps_expr (pe_bm PySem.F.plainAttrs_list PySem.F.slot_list_append PySem.F.type_list_append mt_append (pv 3) (pa_cons (pv 4) (pa_nil))))   (pss_one (ps_set (i := 4) sc_law_places.nd rfl (.inl rfl) (pe_op op_mod (pe_op op_add (pv 4) (pv 5)) (pv 1))))))))))   (pss_one (ps_ret (pv 3))))))
theorem ok_law_guessed (T : Top K mg) : ∀ n, n ≤ 10 → FnOk P w K mg base CX0 n T.f_law_guessed T.fd_law_guessed ["_law_guesser_here", "_law_places_here"] (spLawGuessed K n)
  | 0, _ => none_ok (fun vs H Q E h => by obtain ⟨a, l, g, ls, _, _, _, hn, _⟩ := h; omega)
  | n + 1, h10 => by
    have G_law_guessed := ok_law_guessed T n (by omega)
    refine T.F_law_guessed.ok sc_law_guessed (fun vs H Q E h => by obtain ⟨a, l, g, ls, rfl, _⟩ := h; rfl) (fun cdv A outer s H vs Q E hr h => ⟨t_law_guessed K (spLawGuessed K n), PSs.nox ?_, pu_law_guessed (by omega) h⟩)
    have hu := hu_of hr; exact pss_cons (ps_set (i := 2) sc_law_guessed.nd rfl (.inl rfl) (pe_ix ix_list (pv 1) (pe_un un_neg (pe_int)) (fun _ _ => rfl)))   (pss_cons (ps_if (pt_cmpR op_eq (pe_ix ix_tup (pv 0) (pe_int) (fun _ _ => rfl)) (pe_str) (nomark _)) (pss_cons (ps_set (i := 3) sc_law_guessed.nd rfl (.inr rfl) (pe_call G_law_guessed (hr.mono (by omega)) rfl (T.g_law_guessed) (T.F_law_guessed.kp) (b_law_guessed T) .nil pass0 (pa_cons (pe_ix ix_tup (pv 0) (pe_int) (fun _ _ => rfl)) (pa_cons (pv 1) (pa_nil)))))   (pss_one (ps_ret (pe_op op_cat (pv 3) (pe_lc (own := [("_law_place", 8)]) (g := gName 8) (tt := tTest (tOp (rIn K true) (tVar 8) (tVar 3))) (by rfl) sc_law_guessed.nd (pi_list (pe_call G_law_guessed (hr.mono (by omega)) rfl (T.g_law_guessed) (T.F_law_guessed.kp) (b_law_guessed T) .nil pass0 (pa_cons (pe_ix ix_tup (pv 0) (pe_int) (fun _ _ => rfl)) (pa_cons (pv 1) (pa_nil))))) (blkOk_by (own := [("_law_place", 8)]) (N := ["_law_guesser_here", "_law_places_here", "_law_here", "_law_one", "_law_strides", "_law_some", "_law_found", "_law_k", "_law_place"]) (sc := defScope s_law_guessed) (by decide +kernel)) (fun _ _ _ _ _ => pg_name (i := 8) sc_law_guessed.nd rfl (.inl rfl)) (fun _ _ _ _ _ => pts_one (pt_cmpR op_notIn_seq (pv 8) (pv 3) (by rfl))) (fun _ _ _ _ _ => pv 8)))))) (pss_nil))   (pss_cons (ps_if (pt_cmpR op_eq (pe_ix ix_tup (pv 0) (pe_int) (fun _ _ => rfl)) (pe_str) (nomark _)) (pss_one (ps_ret (pe_slice sl_list (pe_lst (pa_cons (pe_op op_add (pv 2) (pe_int)) (pa_cons (pe_op op_add (pv 2) (pe_int)) (pa_cons (pe_op op_add (pv 2) (pe_int)) (pa_nil))))) (po_none) (po_some (pe_ix ix_tup (pv 0) (pe_int) (fun _ _ => rfl)))))) (pss_nil))   (pss_cons (ps_if (pt_cmpR op_eq (pe_ix ix_tup (pv 0) (pe_int) (fun _ _ => rfl)) (pe_str) (nomark _)) (pss_cons (ps_setLc (i := 4) (own := [("_law_k", 7)]) (g := gName 7) (tt := tYes) (by rfl) sc_law_guessed.nd rfl rfl (sw_true rfl rfl rfl (by decide +kernel)) (pi_range2 (by rfl) T.z_range (pa_cons (pe_int) (pa_cons (pe_callB call_len_seq (by rfl) T.z_len PySem.boot_len (pa_cons (pv 1) (pa_nil))) (pa_nil)))) (blkOk_by (own := [("_law_k", 7)]) (N := ["_law_guesser_here", "_law_places_here", "_law_here", "_law_one", "_law_strides", "_law_some", "_law_found", "_law_k", "_law_place"]) (sc := defScope s_law_guessed) (by decide +kernel)) (fun _ _ _ _ _ => pg_name (i := 7) sc_law_guessed.nd rfl (.inl rfl)) (fun _ _ _ _ _ => pts_nil) (fun _ _ _ _ _ => pe_op op_sub (pe_ix ix_list (pv 1) (pv 7) (fun _ _ => rfl)) (pe_ix ix_list (pv 1) (pe_op op_sub (pv 7) (pe_int)) (fun _ _ => rfl))))   (pss_cons (ps_set (i := 5) sc_law_guessed.nd rfl (.inl rfl) (pe_slice sl_list (pv 4) (po_some (pe_callB (call_max2 rfl) (by rfl) T.z_max (by decide +kernel) (pa_cons (pe_int) (pa_cons (pe_op op_sub (pe_callB call_len_seq (by rfl) T.z_len PySem.boot_len (pa_cons (pv 4) (pa_nil))) (pe_ix ix_tup (pv 0) (pe_int) (fun _ _ => rfl))) (pa_nil))))) (po_none)))   (pss_cons (ps_if (PW.pt (pw_or (pt_cmpR op_lt (pe_callB call_len_seq (by rfl) T.z_len PySem.boot_len (pa_cons (pv 5) (pa_nil))) (pe_ix ix_tup (pv 0) (pe_int) (fun _ _ => rfl)) (nomark _)) (pw_or (pt_cmpR (op_neD hr.units) (pv 5) (pe_op op_rep (pe_lst (pa_cons (pe_ix ix_list (pv 5) (pe_int) (fun _ _ => rfl)) (pa_nil))) (pe_callB call_len_seq (by rfl) T.z_len PySem.boot_len (pa_cons (pv 5) (pa_nil)))) (nomark _)) (pw_or1 (pt_cmpR op_eq (pe_ix ix_list (pv 5) (pe_int) (fun _ _ => rfl)) (pe_int) (nomark _)))))) (pss_one (ps_ret (pe_lst (pa_nil)))) (pss_nil))   (pss_one (ps_ret (pe_lst (pa_cons (pe_op op_add (pv 2) (pe_ix ix_list (pv 5) (pe_int) (fun _ _ => rfl))) (pa_nil)))))))) (pss_nil))   (pss_cons (ps_if (pt_cmpR op_eq (pe_ix ix_tup (pv 0) (pe_int) (fun _ _ => rfl)) (pe_str) (nomark _)) (pss_one (ps_ret (pe_lst (pa_nil)))) (pss_nil))   (pss_cons (ps_set (i := 6) sc_law_guessed.nd rfl (.inl rfl) (pe_lst (pa_nil)))   (pss_cons (ps_for PassesOwn.never rfl (pi_range3 (by rfl) T.z_range (pa_cons (pe_op op_sub (pe_callB call_len_seq (by rfl) T.z_len PySem.boot_len (pa_cons (pv 1) (pa_nil))) (pe_int)) (pa_cons (pe_int) (pa_cons (pe_un un_neg (pe_int)) (pa_nil))))) (pg_name (i := 7) sc_law_guessed.nd rfl (.inl rfl)) (pss_one (ps_if (PW.pt (pw_and (pt_cmpR op_eq (pe_ix ix_list (pv 1) (pe_op op_sub (pv 7) (pe_int)) (fun _ _ => rfl)) (pv 2) (nomark _)) (pw_and1 (pt_cmpR op_notIn_seq (pe_ix ix_list (pv 1) (pv 7) (fun _ _ => rfl)) (pv 6) (by rfl))))) (pss_one (ps_expr (pe_bm PySem.F.plainAttrs_list PySem.F.slot_list_append PySem.F.type_list_append mt_append (pv 6) (pa_cons (pe_ix ix_list (pv 1) (pv 7) (fun _ _ => rfl)) (pa_nil))))) (pss_nil))))   (pss_one (ps_ret (pe_slice sl_list (pv 6) (po_none) (po_some (pe_ix ix_tup (pv 0) (pe_int) (fun _ _ => rfl))))))))))))
theorem ok_law_alike (T : Top K mg) : ∀ n, FnOk P w K mg base CX0 n T.f_law_alike T.fd_law_alike ["_law_found", "_law_due"] (spLawAlike n)
  | 0 => none_ok (fun vs H Q E h => h)
  | n + 1 => by
    have G_law_alike := ok_law_alike T n
    refine T.F_law_alike.ok sc_law_alike (fun vs H Q E h => by obtain ⟨d, x, y, rfl, _⟩ := h; rfl) (fun cdv A outer s H vs Q E hr h => ⟨t_law_alike K (spLawAlike n), PSs.nox ?_, pu_law_alike h⟩)
    have hu := hu_of hr; exact pss_cons (ps_if (PW.pt (pw_or (pt_val (pe_callB call_isi (by rfl) T.z_isinstance (by decide +kernel) (pa_cons (pv 1) (pa_cons (pe_bltn (v := .ty "tuple") (by rfl) T.z_tuple (by decide +kernel) rfl) (pa_nil))))) (pw_or1 (pt_val (pe_callB call_isi (by rfl) T.z_isinstance (by decide +kernel) (pa_cons (pv 1) (pa_cons (pe_bltn (v := .ty "list") (by rfl) T.z_list (by decide +kernel) rfl) (pa_nil)))))))) (pss_cons (ps_if (PW.pt (pw_or (pt_cmpR op_ne (pe_callB call_isi (by rfl) T.z_isinstance (by decide +kernel) (pa_cons (pv 0) (pa_cons (pe_bltn (v := .ty "tuple") (by rfl) T.z_tuple (by decide +kernel) rfl) (pa_nil)))) (pe_callB call_isi (by rfl) T.z_isinstance (by decide +kernel) (pa_cons (pv 1) (pa_cons (pe_bltn (v := .ty "tuple") (by rfl) T.z_tuple (by decide +kernel) rfl) (pa_nil)))) (nomark _)) (pw_or1 (pt_not (pt_val (pe_callB call_isiT (by rfl) T.z_isinstance (by decide +kernel) (pa_cons (pv 0) (pa_cons (pe_tup (pa_cons (pe_bltn (v := .ty "tuple") (by rfl) T.z_tuple (by decide +kernel) rfl) (pa_cons (pe_bltn (v := .ty "list") (by rfl) T.z_list (by decide +kernel) rfl) (pa_nil)))) (pa_nil))))))))) (pss_one (ps_ret (pe_bl))) (pss_nil))   (pss_cons (ps_if (pt_cmpR op_ne (pe_callB call_len_seq (by rfl) T.z_len PySem.boot_len (pa_cons (pv 0) (pa_nil))) (pe_callB call_len_seq (by rfl) T.z_len PySem.boot_len (pa_cons (pv 1) (pa_nil))) (nomark _)) (pss_one (ps_ret (pe_bl))) (pss_nil))   (pss_one (ps_ret (pe_cmpR (op_eqD hr.units) (pe_lc (own := [("_law_k", 2)]) (g := gName 2) (tt := tNot (tB (tCall _ [] E0 (tCons (tOp (rIx K) (tVar 0) (tVar 2)) (tCons (tOp (rIx K) (tVar 1) (tVar 2)) (tNil)))))) (by rfl) sc_law_alike.nd (pi_range1 (by rfl) T.z_range (pa_cons (pe_callB call_len_seq (by rfl) T.z_len PySem.boot_len (pa_cons (pv 1) (pa_nil))) (pa_nil))) (blkOk_by (own := [("_law_k", 2)]) (N := ["_law_found", "_law_due", "_law_k"]) (sc := defScope s_law_alike) (by decide +kernel)) (fun _ _ _ _ _ => pg_name (i := 2) sc_law_alike.nd rfl (.inl rfl)) (fun _ _ _ _ _ => pts_one (pt_not (pt_val (pe_call G_law_alike (hr.mono (by omega)) rfl (T.g_law_alike) (T.F_law_alike.kp) (b_law_alike T) .nil pass0 (pa_cons (pe_ix ix_seq (pv 0) (pv 2) (fun _ _ => rfl)) (pa_cons (pe_ix ix_seq (pv 1) (pv 2) (fun _ _ => rfl)) (pa_nil))))))) (fun _ _ _ _ _ => pv 2)) (pe_lst (pa_nil)) (nomark _)))))) (pss_nil))   (pss_cons (ps_if (PW.pt (pw_or (pt_cmp (pc_isN (pv 1)) rfl) (pw_or1 (pt_cmp (pc_isN (pv 0)) rfl)))) (pss_one (ps_ret (pe_and (pe_cmp (pc_isN (pv 1)) rfl) (pe_one (pe_cmp (pc_isN (pv 0)) rfl))))) (pss_nil))   (pss_cons (ps_if (PW.pt (pw_or (pt_val (pe_callB call_isi (by rfl) T.z_isinstance (by decide +kernel) (pa_cons (pv 1) (pa_cons (pe_bltn (v := .ty "bool") (by rfl) T.z_bool (by decide +kernel) rfl) (pa_nil))))) (pw_or1 (pt_val (pe_callB call_isi (by rfl) T.z_isinstance (by decide +kernel) (pa_cons (pv 0) (pa_cons (pe_bltn (v := .ty "bool") (by rfl) T.z_bool (by decide +kernel) rfl) (pa_nil)))))))) (pss_one (ps_ret (pe_and (pe_callB call_isi (by rfl) T.z_isinstance (by decide +kernel) (pa_cons (pv 1) (pa_cons (pe_bltn (v := .ty "bool") (by rfl) T.z_bool (by decide +kernel) rfl) (pa_nil)))) (pe_and (pe_callB call_isi (by rfl) T.z_isinstance (by decide +kernel) (pa_cons (pv 0) (pa_cons (pe_bltn (v := .ty "bool") (by rfl) T.z_bool (by decide +kernel) rfl) (pa_nil)))) (pe_one (pe_cmpR (op_eqD hr.units) (pv 0) (pv 1) (nomark _))))))) (pss_nil))   (pss_cons (ps_if (pt_val (pe_callB call_isi (by rfl) T.z_isinstance (by decide +kernel) (pa_cons (pv 1) (pa_cons (pe_bltn (v := .ty "str") (by rfl) T.z_str (by decide +kernel) rfl) (pa_nil))))) (pss_one (ps_ret (pe_and (pe_callB call_isi (by rfl) T.z_isinstance (by decide +kernel) (pa_cons (pv 0) (pa_cons (pe_bltn (v := .ty "str") (by rfl) T.z_str (by decide +kernel) rfl) (pa_nil)))) (pe_one (pe_cmpR (op_eqD hr.units) (pv 0) (pv 1) (nomark _)))))) (pss_nil))   (pss_one (ps_ret (pe_and (pe_callB call_isi (by rfl) T.z_isinstance (by decide +kernel) (pa_cons (pv 0) (pa_cons (pe_bltn (v := .ty "int") (by rfl) T.z_int (by decide +kernel) rfl) (pa_nil)))) (pe_one (pe_cmpR (op_eqD hr.units) (pv 0) (pv 1) (nomark _)))))))))
end

theorem ok_law {P : Program} {w : World} {K : PySem.W.Frag} {mg : Str → Option Value} {base : Heap} (T : Top K mg) : FnOk P w K mg base CX0 8 T.f_law T.fd_law ["_law_script"] (spLaw K) := by
  have G_law_taken := ok_law_taken (P := P) (w := w) (base := base) T
  have G_law_guesser := ok_law_guesser (P := P) (w := w) (base := base) T 4
  have G_law_places := ok_law_places (P := P) (w := w) (base := base) T
  have G_law_guessed := ok_law_guessed (P := P) (w := w) (base := base) T 4 (by omega)
  have G_law_alike := ok_law_alike (P := P) (w := w) (base := base) T 3
  have G_guesses := ok_guesses (P := P) (w := w) (base := base) T
  refine T.F_law.ok sc_law (fun vs H Q E h => by obtain ⟨a, ns, rfl, _⟩ := h; rfl) (fun cdv A outer s H vs Q E hr h => ⟨t_law K (spGuesses K) (spLawAlike 3) (spLawGuesser K 4) (spTaken K) (spLawPlaces K) (spLawGuessed K 4), PSs.nox ?_, pu_law h⟩)
  have hu := hu_of hr; exact pss_cons (ps_set (i := 1) sc_law.nd rfl (.inl rfl) (pe_lst (pa_cons (pv 0) (pa_cons (pe_int) (pa_cons (pe_int) (pa_nil))))))   (pss_cons (ps_for PassesOwn.never rfl (pi_range1 (by rfl) T.z_range (pa_cons (pe_int) (pa_nil))) (pg_name (i := 2) sc_law.nd rfl (.inl rfl)) (pss_cons (ps_set (i := 3) sc_law.nd rfl (.inr rfl) (pe_call G_law_guesser (hr.mono (by omega)) rfl (T.g_law_guesser) (T.F_law_guesser.kp) (b_law_guesser T) .nil pass0 (pa_cons (pv 1) (pa_cons (pe_int) (pa_nil)))))   (pss_cons (ps_set (i := 4) sc_law.nd rfl (.inl rfl) (pe_ix ix_list (pe_lst (pa_cons (pe_int) (pa_cons (pe_int) (pa_nil)))) (pe_op op_fdiv (pe_call G_law_taken (hr.mono (by omega)) rfl (T.g_law_taken) (T.F_law_taken.kp) (b_law_taken T) .nil pass0 (pa_cons (pv 1) (pa_cons (pe_int) (pa_nil)))) (pe_int)) (fun _ _ => rfl)))   (pss_cons (ps_set (i := 5) sc_law.nd rfl (.inr rfl) (pe_call G_law_places (hr.mono (by omega)) rfl (T.g_law_places) (T.F_law_places.kp) (b_law_places T) .nil pass0 (pa_cons (pv 1) (pa_cons (pe_ix ix_list (pe_lst (pa_cons (pe_int) (pa_cons (pe_int) (pa_cons (pe_op op_pow (pe_int) (pe_int)) (pa_nil))))) (pe_call G_law_taken (hr.mono (by omega)) rfl (T.g_law_taken) (T.F_law_taken.kp) (b_law_taken T) .nil pass0 (pa_cons (pv 1) (pa_cons (pe_int) (pa_nil)))) (fun _ _ => rfl)) (pa_cons (pv 4) (pa_nil))))))   (pss_cons (ps_setLc (i := 6) (own := [("_law_k", 11)]) (g := gName 11) (tt := tYes) (by rfl) sc_law.nd rfl rfl (sw_true rfl rfl rfl (by decide +kernel)) (pi_range1 (by rfl) T.z_range (pa_cons (pe_callB call_len_seq (by rfl) T.z_len PySem.boot_len (pa_cons (pv 5) (pa_nil))) (pa_nil))) (blkOk_by (own := [("_law_k", 11)]) (N := ["_law_script", "_law_row", "_law_turn", "_law_guesser_here", "_law_most", "_law_places_here", "_law_due", "_law_handed", "_law_again", "_law_found", "_law_some", "_law_k"]) (sc := defScope s_law) (by decide +kernel)) (fun _ _ _ _ _ => pg_name (i := 11) sc_law.nd rfl (.inl rfl)) (fun _ _ _ _ _ => pts_nil) (fun _ _ _ _ _ => pe_call G_law_guessed (hr.mono (by omega)) rfl (T.g_law_guessed) (T.F_law_guessed.kp) (b_law_guessed T) .nil pass0 (pa_cons (pv 3) (pa_cons (pe_slice sl_list (pv 5) (po_none) (po_some (pe_op op_add (pv 11) (pe_int)))) (pa_nil)))))   (pss_cons (ps_set (i := 7) sc_law.nd rfl (.inl rfl) (pe_callTy call_list_of (by rfl) T.z_list (by decide +kernel) (pa_cons (pv 5) (pa_nil))))   (pss_one (ps_for PassesOwn.never rfl (pi_range1 (by rfl) T.z_range (pa_cons (pe_int) (pa_nil))) (pg_name (i := 8) sc_law.nd rfl (.inl rfl)) (pss_cons (ps_set (i := 9) sc_law.nd rfl (.inl rfl) (pe_call G_guesses (hr.mono (by omega)) rfl (T.g_guesses) (T.F_guesses.kp) (b_guesses T) .nil pass0 (pa_cons (pv 3) (pa_cons (pv 7) (pa_nil)))))   (pss_cons (ps_if (PW.pt (pw_or (pt_not (pt_val (pe_call G_law_alike (hr.mono (by omega)) rfl (T.g_law_alike) (T.F_law_alike.kp) (b_law_alike T) .nil pass0 (pa_cons (pv 9) (pa_cons (pv 6) (pa_nil)))))) (pw_or1 (pt_cmpR (op_neD hr.units) (pv 7) (pv 5) (nomark _))))) (pss_one (ps_ret (pe_bl))) (pss_nil))   (pss_cons (ps_for PassesOwn.never rfl (pi_list (pv 9)) (pg_name (i := 10) sc_law.nd rfl (.inl rfl)) (pss_one (ps_expr (pe_bm PySem.F.plainAttrs_list PySem.F.slot_list_append PySem.F.type_list_append mt_append (pv 10) (pa_cons (pe_int) (pa_nil))))))   (pss_one (ps_expr (pe_bm PySem.F.plainAttrs_list PySem.F.slot_list_append PySem.F.type_list_append mt_append (pv 9) (pa_cons (pe_lst (pa_nil)) (pa_nil))))))))))))))))   (pss_one (ps_ret (pe_bl))))
/-! ### what the top has left -/
theorem mk_top {K : PySem.W.Frag} {h : Heap} {mg : Str → Option Value} (X : K.In h) (G : h.Ns mainGlobals mg)
    {c_Silent c_Neighbours c_Strides c_Pairs c_Both : Addr}
    {f_Silent_guess : Addr} {od_Silent_guess an_Silent_guess : Option Addr} {sl_Silent_guess : Array (Option Value)} {oc_Silent_guess kV_Silent_guess dc_Silent_guess pm_Silent_guess cd_Silent_guess ct_Silent_guess : Value}
    {f_Neighbours_init : Addr} {od_Neighbours_init an_Neighbours_init : Option Addr} {sl_Neighbours_init : Array (Option Value)} {oc_Neighbours_init kV_Neighbours_init dc_Neighbours_init pm_Neighbours_init cd_Neighbours_init ct_Neighbours_init : Value}
    {f_Neighbours_guess : Addr} {od_Neighbours_guess an_Neighbours_guess : Option Addr} {sl_Neighbours_guess : Array (Option Value)} {oc_Neighbours_guess kV_Neighbours_guess dc_Neighbours_guess pm_Neighbours_guess cd_Neighbours_guess ct_Neighbours_guess : Value}
    {f_Strides_init : Addr} {od_Strides_init an_Strides_init : Option Addr} {sl_Strides_init : Array (Option Value)} {oc_Strides_init kV_Strides_init dc_Strides_init pm_Strides_init cd_Strides_init ct_Strides_init : Value}
    {f_Strides_guess : Addr} {od_Strides_guess an_Strides_guess : Option Addr} {sl_Strides_guess : Array (Option Value)} {oc_Strides_guess kV_Strides_guess dc_Strides_guess pm_Strides_guess cd_Strides_guess ct_Strides_guess : Value}
    {f_Strides_count_stride : Addr} {od_Strides_count_stride an_Strides_count_stride : Option Addr} {sl_Strides_count_stride : Array (Option Value)} {oc_Strides_count_stride kV_Strides_count_stride dc_Strides_count_stride pm_Strides_count_stride cd_Strides_count_stride ct_Strides_count_stride : Value}
    {f_Pairs_init : Addr} {od_Pairs_init an_Pairs_init : Option Addr} {sl_Pairs_init : Array (Option Value)} {oc_Pairs_init kV_Pairs_init dc_Pairs_init pm_Pairs_init cd_Pairs_init ct_Pairs_init : Value}
    {f_Pairs_guess : Addr} {od_Pairs_guess an_Pairs_guess : Option Addr} {sl_Pairs_guess : Array (Option Value)} {oc_Pairs_guess kV_Pairs_guess dc_Pairs_guess pm_Pairs_guess cd_Pairs_guess ct_Pairs_guess : Value}
    {f_Pairs_put_behind : Addr} {od_Pairs_put_behind an_Pairs_put_behind : Option Addr} {sl_Pairs_put_behind : Array (Option Value)} {oc_Pairs_put_behind kV_Pairs_put_behind dc_Pairs_put_behind pm_Pairs_put_behind cd_Pairs_put_behind ct_Pairs_put_behind : Value}
    {f_Both_init : Addr} {od_Both_init an_Both_init : Option Addr} {sl_Both_init : Array (Option Value)} {oc_Both_init kV_Both_init dc_Both_init pm_Both_init cd_Both_init ct_Both_init : Value}
    {f_Both_guess : Addr} {od_Both_guess an_Both_guess : Option Addr} {sl_Both_guess : Array (Option Value)} {oc_Both_guess kV_Both_guess dc_Both_guess pm_Both_guess cd_Both_guess ct_Both_guess : Value}
    {f_is_guesser : Addr} {od_is_guesser an_is_guesser : Option Addr} {sl_is_guesser : Array (Option Value)} {oc_is_guesser kV_is_guesser dc_is_guesser pm_is_guesser cd_is_guesser ct_is_guesser : Value}
    {f_check_guesser : Addr} {od_check_guesser an_check_guesser : Option Addr} {sl_check_guesser : Array (Option Value)} {oc_check_guesser kV_check_guesser dc_check_guesser pm_check_guesser cd_check_guesser ct_check_guesser : Value}
    {f_begun : Addr} {od_begun an_begun : Option Addr} {sl_begun : Array (Option Value)} {oc_begun kV_begun dc_begun pm_begun cd_begun ct_begun : Value}
    {f_guesses : Addr} {od_guesses an_guesses : Option Addr} {sl_guesses : Array (Option Value)} {oc_guesses kV_guesses dc_guesses pm_guesses cd_guesses ct_guesses : Value}
    {f_law_taken : Addr} {od_law_taken an_law_taken : Option Addr} {sl_law_taken : Array (Option Value)} {oc_law_taken kV_law_taken dc_law_taken pm_law_taken cd_law_taken ct_law_taken : Value}
    {f_law_alike : Addr} {od_law_alike an_law_alike : Option Addr} {sl_law_alike : Array (Option Value)} {oc_law_alike kV_law_alike dc_law_alike pm_law_alike cd_law_alike ct_law_alike : Value}
    {f_law_guesser : Addr} {od_law_guesser an_law_guesser : Option Addr} {sl_law_guesser : Array (Option Value)} {oc_law_guesser kV_law_guesser dc_law_guesser pm_law_guesser cd_law_guesser ct_law_guesser : Value}
    {f_law_places : Addr} {od_law_places an_law_places : Option Addr} {sl_law_places : Array (Option Value)} {oc_law_places kV_law_places dc_law_places pm_law_places cd_law_places ct_law_places : Value}
    {f_law_guessed : Addr} {od_law_guessed an_law_guessed : Option Addr} {sl_law_guessed : Array (Option Value)} {oc_law_guessed kV_law_guessed dc_law_guessed pm_law_guessed cd_law_guessed ct_law_guessed : Value}
    {f_law : Addr} {od_law an_law : Option Addr} {sl_law : Array (Option Value)} {oc_law kV_law dc_law pm_law cd_law ct_law : Value}
    {t_MOST_BOTHS : Tok}
    (a_Silent : PySem.W.nsIn K mainGlobals "Silent" = some (some (.ref c_Silent)))
    (pg_Silent : PySem.W.plainGet K c_Silent Str.empty = true)
    (hd_Silent : PySem.W.hasDictIn K c_Silent = true)
    (po_Silent : PySem.W.plainOver K c_Silent = true)
    (sa_Silent : PySem.W.findIn K (.ref c_Silent) "__setattr__" = some (some (.builtin "object.__setattr__")))
    (mk_Silent : PySem.W.makesIn K c_Silent = true)
    (kc_Silent : PySem.W.keepIn K (.ref c_Silent) = true)
    (i_Silent : PySem.W.findIn K (.ref c_Silent) "__init__" = some (some (.builtin "object.__init__")))
    (a_Neighbours : PySem.W.nsIn K mainGlobals "Neighbours" = some (some (.ref c_Neighbours)))
    (pg_Neighbours : PySem.W.plainGet K c_Neighbours Str.empty = true)
    (hd_Neighbours : PySem.W.hasDictIn K c_Neighbours = true)
    (po_Neighbours : PySem.W.plainOver K c_Neighbours = true)
    (sa_Neighbours : PySem.W.findIn K (.ref c_Neighbours) "__setattr__" = some (some (.builtin "object.__setattr__")))
    (mk_Neighbours : PySem.W.makesIn K c_Neighbours = true)
    (kc_Neighbours : PySem.W.keepIn K (.ref c_Neighbours) = true)
    (n_Neighbours_many : PySem.W.findIn K (.ref c_Neighbours) "many" = some none)
    (a_Strides : PySem.W.nsIn K mainGlobals "Strides" = some (some (.ref c_Strides)))
    (pg_Strides : PySem.W.plainGet K c_Strides Str.empty = true)
    (hd_Strides : PySem.W.hasDictIn K c_Strides = true)
    (po_Strides : PySem.W.plainOver K c_Strides = true)
    (sa_Strides : PySem.W.findIn K (.ref c_Strides) "__setattr__" = some (some (.builtin "object.__setattr__")))
    (mk_Strides : PySem.W.makesIn K c_Strides = true)
    (kc_Strides : PySem.W.keepIn K (.ref c_Strides) = true)
    (n_Strides_times : PySem.W.findIn K (.ref c_Strides) "times" = some none)
    (n_Strides_last : PySem.W.findIn K (.ref c_Strides) "last" = some none)
    (n_Strides_stride : PySem.W.findIn K (.ref c_Strides) "stride" = some none)
    (n_Strides_same : PySem.W.findIn K (.ref c_Strides) "same" = some none)
    (a_Pairs : PySem.W.nsIn K mainGlobals "Pairs" = some (some (.ref c_Pairs)))
    (pg_Pairs : PySem.W.plainGet K c_Pairs Str.empty = true)
    (hd_Pairs : PySem.W.hasDictIn K c_Pairs = true)
    (po_Pairs : PySem.W.plainOver K c_Pairs = true)
    (sa_Pairs : PySem.W.findIn K (.ref c_Pairs) "__setattr__" = some (some (.builtin "object.__setattr__")))
    (mk_Pairs : PySem.W.makesIn K c_Pairs = true)
    (kc_Pairs : PySem.W.keepIn K (.ref c_Pairs) = true)
    (n_Pairs_many : PySem.W.findIn K (.ref c_Pairs) "many" = some none)
    (n_Pairs_last : PySem.W.findIn K (.ref c_Pairs) "last" = some none)
    (n_Pairs_followers : PySem.W.findIn K (.ref c_Pairs) "followers" = some none)
    (a_Both : PySem.W.nsIn K mainGlobals "Both" = some (some (.ref c_Both)))
    (pg_Both : PySem.W.plainGet K c_Both Str.empty = true)
    (hd_Both : PySem.W.hasDictIn K c_Both = true)
    (po_Both : PySem.W.plainOver K c_Both = true)
    (sa_Both : PySem.W.findIn K (.ref c_Both) "__setattr__" = some (some (.builtin "object.__setattr__")))
    (mk_Both : PySem.W.makesIn K c_Both = true)
    (kc_Both : PySem.W.keepIn K (.ref c_Both) = true)
    (n_Both_one : PySem.W.findIn K (.ref c_Both) "one" = some none)
    (n_Both_other : PySem.W.findIn K (.ref c_Both) "other" = some none)
    (a_Silent_guess : PySem.W.findIn K (.ref c_Silent) "guess" = some (some (.ref f_Silent_guess)))
    (l_Silent_guess : K.lookup f_Silent_guess = some ⟨oc_Silent_guess, od_Silent_guess, .func (PySem.W.fnOf "guess" "Silent.guess" (defArgs s_Silent_guess) (defBody s_Silent_guess) (defScope s_Silent_guess) .none kV_Silent_guess dc_Silent_guess pm_Silent_guess an_Silent_guess cd_Silent_guess ct_Silent_guess), sl_Silent_guess⟩)
    (cdk_Silent_guess : PySem.W.codeIn K cd_Silent_guess "Silent.guess" = true)
    (kp_Silent_guess : PySem.W.keepIn K (.ref f_Silent_guess) = true)
    (if_Silent_guess : PySem.W.isFn K (.ref f_Silent_guess) = true)
    (a_Neighbours_init : PySem.W.findIn K (.ref c_Neighbours) "__init__" = some (some (.ref f_Neighbours_init)))
    (l_Neighbours_init : K.lookup f_Neighbours_init = some ⟨oc_Neighbours_init, od_Neighbours_init, .func (PySem.W.fnOf "__init__" "Neighbours.__init__" (defArgs s_Neighbours_init) (defBody s_Neighbours_init) (defScope s_Neighbours_init) .none kV_Neighbours_init dc_Neighbours_init pm_Neighbours_init an_Neighbours_init cd_Neighbours_init ct_Neighbours_init), sl_Neighbours_init⟩)
    (cdk_Neighbours_init : PySem.W.codeIn K cd_Neighbours_init "Neighbours.__init__" = true)
    (kp_Neighbours_init : PySem.W.keepIn K (.ref f_Neighbours_init) = true)
    (if_Neighbours_init : PySem.W.isFn K (.ref f_Neighbours_init) = true)
    (a_Neighbours_guess : PySem.W.findIn K (.ref c_Neighbours) "guess" = some (some (.ref f_Neighbours_guess)))
    (l_Neighbours_guess : K.lookup f_Neighbours_guess = some ⟨oc_Neighbours_guess, od_Neighbours_guess, .func (PySem.W.fnOf "guess" "Neighbours.guess" (defArgs s_Neighbours_guess) (defBody s_Neighbours_guess) (defScope s_Neighbours_guess) .none kV_Neighbours_guess dc_Neighbours_guess pm_Neighbours_guess an_Neighbours_guess cd_Neighbours_guess ct_Neighbours_guess), sl_Neighbours_guess⟩)
    (cdk_Neighbours_guess : PySem.W.codeIn K cd_Neighbours_guess "Neighbours.guess" = true)
    (kp_Neighbours_guess : PySem.W.keepIn K (.ref f_Neighbours_guess) = true)
    (if_Neighbours_guess : PySem.W.isFn K (.ref f_Neighbours_guess) = true)
    (a_Strides_init : PySem.W.findIn K (.ref c_Strides) "__init__" = some (some (.ref f_Strides_init)))
    (l_Strides_init : K.lookup f_Strides_init = some ⟨oc_Strides_init, od_Strides_init, .func (PySem.W.fnOf "__init__" "Strides.__init__" (defArgs s_Strides_init) (defBody s_Strides_init) (defScope s_Strides_init) .none kV_Strides_init dc_Strides_init pm_Strides_init an_Strides_init cd_Strides_init ct_Strides_init), sl_Strides_init⟩)
    (cdk_Strides_init : PySem.W.codeIn K cd_Strides_init "Strides.__init__" = true)
    (kp_Strides_init : PySem.W.keepIn K (.ref f_Strides_init) = true)
    (if_Strides_init : PySem.W.isFn K (.ref f_Strides_init) = true)
    (a_Strides_guess : PySem.W.findIn K (.ref c_Strides) "guess" = some (some (.ref f_Strides_guess)))
    (l_Strides_guess : K.lookup f_Strides_guess = some ⟨oc_Strides_guess, od_Strides_guess, .func (PySem.W.fnOf "guess" "Strides.guess" (defArgs s_Strides_guess) (defBody s_Strides_guess) (defScope s_Strides_guess) .none kV_Strides_guess dc_Strides_guess pm_Strides_guess an_Strides_guess cd_Strides_guess ct_Strides_guess), sl_Strides_guess⟩)
    (cdk_Strides_guess : PySem.W.codeIn K cd_Strides_guess "Strides.guess" = true)
    (kp_Strides_guess : PySem.W.keepIn K (.ref f_Strides_guess) = true)
    (if_Strides_guess : PySem.W.isFn K (.ref f_Strides_guess) = true)
    (a_Strides_count_stride : PySem.W.findIn K (.ref c_Strides) "count_stride" = some (some (.ref f_Strides_count_stride)))
    (l_Strides_count_stride : K.lookup f_Strides_count_stride = some ⟨oc_Strides_count_stride, od_Strides_count_stride, .func (PySem.W.fnOf "count_stride" "Strides.count_stride" (defArgs s_Strides_count_stride) (defBody s_Strides_count_stride) (defScope s_Strides_count_stride) .none kV_Strides_count_stride dc_Strides_count_stride pm_Strides_count_stride an_Strides_count_stride cd_Strides_count_stride ct_Strides_count_stride), sl_Strides_count_stride⟩)
    (cdk_Strides_count_stride : PySem.W.codeIn K cd_Strides_count_stride "Strides.count_stride" = true)
    (kp_Strides_count_stride : PySem.W.keepIn K (.ref f_Strides_count_stride) = true)
    (if_Strides_count_stride : PySem.W.isFn K (.ref f_Strides_count_stride) = true)
    (a_Pairs_init : PySem.W.findIn K (.ref c_Pairs) "__init__" = some (some (.ref f_Pairs_init)))
    (l_Pairs_init : K.lookup f_Pairs_init = some ⟨oc_Pairs_init, od_Pairs_init, .func (PySem.W.fnOf "__init__" "Pairs.__init__" (defArgs s_Pairs_init) (defBody s_Pairs_init) (defScope s_Pairs_init) .none kV_Pairs_init dc_Pairs_init pm_Pairs_init an_Pairs_init cd_Pairs_init ct_Pairs_init), sl_Pairs_init⟩)
    (cdk_Pairs_init : PySem.W.codeIn K cd_Pairs_init "Pairs.__init__" = true)
    (kp_Pairs_init : PySem.W.keepIn K (.ref f_Pairs_init) = true)
    (if_Pairs_init : PySem.W.isFn K (.ref f_Pairs_init) = true)
    (a_Pairs_guess : PySem.W.findIn K (.ref c_Pairs) "guess" = some (some (.ref f_Pairs_guess)))
    (l_Pairs_guess : K.lookup f_Pairs_guess = some ⟨oc_Pairs_guess, od_Pairs_guess, .func (PySem.W.fnOf "guess" "Pairs.guess" (defArgs s_Pairs_guess) (defBody s_Pairs_guess) (defScope s_Pairs_guess) .none kV_Pairs_guess dc_Pairs_guess pm_Pairs_guess an_Pairs_guess cd_Pairs_guess ct_Pairs_guess), sl_Pairs_guess⟩)
    (cdk_Pairs_guess : PySem.W.codeIn K cd_Pairs_guess "Pairs.guess" = true)
    (kp_Pairs_guess : PySem.W.keepIn K (.ref f_Pairs_guess) = true)
    (if_Pairs_guess : PySem.W.isFn K (.ref f_Pairs_guess) = true)
    (a_Pairs_put_behind : PySem.W.findIn K (.ref c_Pairs) "put_behind" = some (some (.ref f_Pairs_put_behind)))
    (l_Pairs_put_behind : K.lookup f_Pairs_put_behind = some ⟨oc_Pairs_put_behind, od_Pairs_put_behind, .func (PySem.W.fnOf "put_behind" "Pairs.put_behind" (defArgs s_Pairs_put_behind) (defBody s_Pairs_put_behind) (defScope s_Pairs_put_behind) .none kV_Pairs_put_behind dc_Pairs_put_behind pm_Pairs_put_behind an_Pairs_put_behind cd_Pairs_put_behind ct_Pairs_put_behind), sl_Pairs_put_behind⟩)
    (cdk_Pairs_put_behind : PySem.W.codeIn K cd_Pairs_put_behind "Pairs.put_behind" = true)
    (kp_Pairs_put_behind : PySem.W.keepIn K (.ref f_Pairs_put_behind) = true)
    (if_Pairs_put_behind : PySem.W.isFn K (.ref f_Pairs_put_behind) = true)
    (a_Both_init : PySem.W.findIn K (.ref c_Both) "__init__" = some (some (.ref f_Both_init)))
    (l_Both_init : K.lookup f_Both_init = some ⟨oc_Both_init, od_Both_init, .func (PySem.W.fnOf "__init__" "Both.__init__" (defArgs s_Both_init) (defBody s_Both_init) (defScope s_Both_init) .none kV_Both_init dc_Both_init pm_Both_init an_Both_init cd_Both_init ct_Both_init), sl_Both_init⟩)
    (cdk_Both_init : PySem.W.codeIn K cd_Both_init "Both.__init__" = true)
    (kp_Both_init : PySem.W.keepIn K (.ref f_Both_init) = true)
    (if_Both_init : PySem.W.isFn K (.ref f_Both_init) = true)
    (a_Both_guess : PySem.W.findIn K (.ref c_Both) "guess" = some (some (.ref f_Both_guess)))
    (l_Both_guess : K.lookup f_Both_guess = some ⟨oc_Both_guess, od_Both_guess, .func (PySem.W.fnOf "guess" "Both.guess" (defArgs s_Both_guess) (defBody s_Both_guess) (defScope s_Both_guess) .none kV_Both_guess dc_Both_guess pm_Both_guess an_Both_guess cd_Both_guess ct_Both_guess), sl_Both_guess⟩)
    (cdk_Both_guess : PySem.W.codeIn K cd_Both_guess "Both.guess" = true)
    (kp_Both_guess : PySem.W.keepIn K (.ref f_Both_guess) = true)
    (if_Both_guess : PySem.W.isFn K (.ref f_Both_guess) = true)
    (a_is_guesser : PySem.W.nsIn K mainGlobals "is_guesser" = some (some (.ref f_is_guesser)))
    (l_is_guesser : K.lookup f_is_guesser = some ⟨oc_is_guesser, od_is_guesser, .func (PySem.W.fnOf "is_guesser" "is_guesser" (defArgs s_is_guesser) (defBody s_is_guesser) (defScope s_is_guesser) .none kV_is_guesser dc_is_guesser pm_is_guesser an_is_guesser cd_is_guesser ct_is_guesser), sl_is_guesser⟩)
    (cdk_is_guesser : PySem.W.codeIn K cd_is_guesser "is_guesser" = true)
    (kp_is_guesser : PySem.W.keepIn K (.ref f_is_guesser) = true)
    (a_check_guesser : PySem.W.nsIn K mainGlobals "check_guesser" = some (some (.ref f_check_guesser)))
    (l_check_guesser : K.lookup f_check_guesser = some ⟨oc_check_guesser, od_check_guesser, .func (PySem.W.fnOf "check_guesser" "check_guesser" (defArgs s_check_guesser) (defBody s_check_guesser) (defScope s_check_guesser) .none kV_check_guesser dc_check_guesser pm_check_guesser an_check_guesser cd_check_guesser ct_check_guesser), sl_check_guesser⟩)
    (cdk_check_guesser : PySem.W.codeIn K cd_check_guesser "check_guesser" = true)
    (kp_check_guesser : PySem.W.keepIn K (.ref f_check_guesser) = true)
    (a_begun : PySem.W.nsIn K mainGlobals "begun" = some (some (.ref f_begun)))
    (l_begun : K.lookup f_begun = some ⟨oc_begun, od_begun, .func (PySem.W.fnOf "begun" "begun" (defArgs s_begun) (defBody s_begun) (defScope s_begun) .none kV_begun dc_begun pm_begun an_begun cd_begun ct_begun), sl_begun⟩)
    (cdk_begun : PySem.W.codeIn K cd_begun "begun" = true)
    (kp_begun : PySem.W.keepIn K (.ref f_begun) = true)
    (a_guesses : PySem.W.nsIn K mainGlobals "guesses" = some (some (.ref f_guesses)))
    (l_guesses : K.lookup f_guesses = some ⟨oc_guesses, od_guesses, .func (PySem.W.fnOf "guesses" "guesses" (defArgs s_guesses) (defBody s_guesses) (defScope s_guesses) .none kV_guesses dc_guesses pm_guesses an_guesses cd_guesses ct_guesses), sl_guesses⟩)
    (cdk_guesses : PySem.W.codeIn K cd_guesses "guesses" = true)
    (kp_guesses : PySem.W.keepIn K (.ref f_guesses) = true)
    (a_law_taken : PySem.W.nsIn K mainGlobals "_law_taken" = some (some (.ref f_law_taken)))
    (l_law_taken : K.lookup f_law_taken = some ⟨oc_law_taken, od_law_taken, .func (PySem.W.fnOf "_law_taken" "_law_taken" (defArgs s_law_taken) (defBody s_law_taken) (defScope s_law_taken) .none kV_law_taken dc_law_taken pm_law_taken an_law_taken cd_law_taken ct_law_taken), sl_law_taken⟩)
    (cdk_law_taken : PySem.W.codeIn K cd_law_taken "_law_taken" = true)
    (kp_law_taken : PySem.W.keepIn K (.ref f_law_taken) = true)
    (a_law_alike : PySem.W.nsIn K mainGlobals "_law_alike" = some (some (.ref f_law_alike)))
    (l_law_alike : K.lookup f_law_alike = some ⟨oc_law_alike, od_law_alike, .func (PySem.W.fnOf "_law_alike" "_law_alike" (defArgs s_law_alike) (defBody s_law_alike) (defScope s_law_alike) .none kV_law_alike dc_law_alike pm_law_alike an_law_alike cd_law_alike ct_law_alike), sl_law_alike⟩)
    (cdk_law_alike : PySem.W.codeIn K cd_law_alike "_law_alike" = true)
    (kp_law_alike : PySem.W.keepIn K (.ref f_law_alike) = true)
    (a_law_guesser : PySem.W.nsIn K mainGlobals "_law_guesser" = some (some (.ref f_law_guesser)))
    (l_law_guesser : K.lookup f_law_guesser = some ⟨oc_law_guesser, od_law_guesser, .func (PySem.W.fnOf "_law_guesser" "_law_guesser" (defArgs s_law_guesser) (defBody s_law_guesser) (defScope s_law_guesser) .none kV_law_guesser dc_law_guesser pm_law_guesser an_law_guesser cd_law_guesser ct_law_guesser), sl_law_guesser⟩)
    (cdk_law_guesser : PySem.W.codeIn K cd_law_guesser "_law_guesser" = true)
    (kp_law_guesser : PySem.W.keepIn K (.ref f_law_guesser) = true)
    (a_law_places : PySem.W.nsIn K mainGlobals "_law_places" = some (some (.ref f_law_places)))
    (l_law_places : K.lookup f_law_places = some ⟨oc_law_places, od_law_places, .func (PySem.W.fnOf "_law_places" "_law_places" (defArgs s_law_places) (defBody s_law_places) (defScope s_law_places) .none kV_law_places dc_law_places pm_law_places an_law_places cd_law_places ct_law_places), sl_law_places⟩)
    (cdk_law_places : PySem.W.codeIn K cd_law_places "_law_places" = true)
    (kp_law_places : PySem.W.keepIn K (.ref f_law_places) = true)
    (a_law_guessed : PySem.W.nsIn K mainGlobals "_law_guessed" = some (some (.ref f_law_guessed)))
    (l_law_guessed : K.lookup f_law_guessed = some ⟨oc_law_guessed, od_law_guessed, .func (PySem.W.fnOf "_law_guessed" "_law_guessed" (defArgs s_law_guessed) (defBody s_law_guessed) (defScope s_law_guessed) .none kV_law_guessed dc_law_guessed pm_law_guessed an_law_guessed cd_law_guessed ct_law_guessed), sl_law_guessed⟩)
    (cdk_law_guessed : PySem.W.codeIn K cd_law_guessed "_law_guessed" = true)
    (kp_law_guessed : PySem.W.keepIn K (.ref f_law_guessed) = true)
    (a_law : PySem.W.nsIn K mainGlobals "law" = some (some (.ref f_law)))
    (l_law : K.lookup f_law = some ⟨oc_law, od_law, .func (PySem.W.fnOf "law" "law" (defArgs s_law) (defBody s_law) (defScope s_law) .none kV_law dc_law pm_law an_law cd_law ct_law), sl_law⟩)
    (cdk_law : PySem.W.codeIn K cd_law "law" = true)
    (kp_law : PySem.W.keepIn K (.ref f_law) = true)
    (k_MOST_BOTHS : PySem.W.nsIn K mainGlobals "MOST_BOTHS" = some (some (.int 3 t_MOST_BOTHS)))
    (z_bool : PySem.W.nsIn K mainGlobals "bool" = some none)
    (z_int : PySem.W.nsIn K mainGlobals "int" = some none)
    (z_isinstance : PySem.W.nsIn K mainGlobals "isinstance" = some none)
    (z_len : PySem.W.nsIn K mainGlobals "len" = some none)
    (z_list : PySem.W.nsIn K mainGlobals "list" = some none)
    (z_max : PySem.W.nsIn K mainGlobals "max" = some none)
    (z_range : PySem.W.nsIn K mainGlobals "range" = some none)
    (z_str : PySem.W.nsIn K mainGlobals "str" = some none)
    (z_tuple : PySem.W.nsIn K mainGlobals "tuple" = some none) : Nonempty (Top K mg) := ⟨{
    c_Silent := c_Silent
    cl_Silent := ⟨pg_Silent, hd_Silent, po_Silent, sa_Silent⟩
    g_Silent := PySem.W.mg_of X G a_Silent
    mk_Silent := ⟨mk_Silent, i_Silent, kc_Silent⟩
    c_Neighbours := c_Neighbours
    cl_Neighbours := ⟨pg_Neighbours, hd_Neighbours, po_Neighbours, sa_Neighbours⟩
    g_Neighbours := PySem.W.mg_of X G a_Neighbours
    n_Neighbours_many := n_Neighbours_many
    c_Strides := c_Strides
    cl_Strides := ⟨pg_Strides, hd_Strides, po_Strides, sa_Strides⟩
    g_Strides := PySem.W.mg_of X G a_Strides
    n_Strides_times := n_Strides_times
    n_Strides_last := n_Strides_last
    n_Strides_stride := n_Strides_stride
    n_Strides_same := n_Strides_same
    c_Pairs := c_Pairs
    cl_Pairs := ⟨pg_Pairs, hd_Pairs, po_Pairs, sa_Pairs⟩
    g_Pairs := PySem.W.mg_of X G a_Pairs
    n_Pairs_many := n_Pairs_many
    n_Pairs_last := n_Pairs_last
    n_Pairs_followers := n_Pairs_followers
    c_Both := c_Both
    cl_Both := ⟨pg_Both, hd_Both, po_Both, sa_Both⟩
    g_Both := PySem.W.mg_of X G a_Both
    n_Both_one := n_Both_one
    n_Both_other := n_Both_other
    f_Silent_guess := f_Silent_guess
    fd_Silent_guess := PySem.W.fnOf "guess" "Silent.guess" (defArgs s_Silent_guess) (defBody s_Silent_guess) (defScope s_Silent_guess) .none kV_Silent_guess dc_Silent_guess pm_Silent_guess an_Silent_guess cd_Silent_guess ct_Silent_guess
    F_Silent_guess := fun_mk l_Silent_guess cdk_Silent_guess kp_Silent_guess
    m_Silent_guess := ⟨a_Silent_guess, if_Silent_guess, kp_Silent_guess⟩
    f_Neighbours_init := f_Neighbours_init
    fd_Neighbours_init := PySem.W.fnOf "__init__" "Neighbours.__init__" (defArgs s_Neighbours_init) (defBody s_Neighbours_init) (defScope s_Neighbours_init) .none kV_Neighbours_init dc_Neighbours_init pm_Neighbours_init an_Neighbours_init cd_Neighbours_init ct_Neighbours_init
    F_Neighbours_init := fun_mk l_Neighbours_init cdk_Neighbours_init kp_Neighbours_init
    mk_Neighbours := ⟨mk_Neighbours, a_Neighbours_init, if_Neighbours_init, kc_Neighbours⟩
    f_Neighbours_guess := f_Neighbours_guess
    fd_Neighbours_guess := PySem.W.fnOf "guess" "Neighbours.guess" (defArgs s_Neighbours_guess) (defBody s_Neighbours_guess) (defScope s_Neighbours_guess) .none kV_Neighbours_guess dc_Neighbours_guess pm_Neighbours_guess an_Neighbours_guess cd_Neighbours_guess ct_Neighbours_guess
    F_Neighbours_guess := fun_mk l_Neighbours_guess cdk_Neighbours_guess kp_Neighbours_guess
    m_Neighbours_guess := ⟨a_Neighbours_guess, if_Neighbours_guess, kp_Neighbours_guess⟩
    f_Strides_init := f_Strides_init
    fd_Strides_init := PySem.W.fnOf "__init__" "Strides.__init__" (defArgs s_Strides_init) (defBody s_Strides_init) (defScope s_Strides_init) .none kV_Strides_init dc_Strides_init pm_Strides_init an_Strides_init cd_Strides_init ct_Strides_init
    F_Strides_init := fun_mk l_Strides_init cdk_Strides_init kp_Strides_init
    mk_Strides := ⟨mk_Strides, a_Strides_init, if_Strides_init, kc_Strides⟩
    f_Strides_guess := f_Strides_guess
    fd_Strides_guess := PySem.W.fnOf "guess" "Strides.guess" (defArgs s_Strides_guess) (defBody s_Strides_guess) (defScope s_Strides_guess) .none kV_Strides_guess dc_Strides_guess pm_Strides_guess an_Strides_guess cd_Strides_guess ct_Strides_guess
    F_Strides_guess := fun_mk l_Strides_guess cdk_Strides_guess kp_Strides_guess
    m_Strides_guess := ⟨a_Strides_guess, if_Strides_guess, kp_Strides_guess⟩
    f_Strides_count_stride := f_Strides_count_stride
    fd_Strides_count_stride := PySem.W.fnOf "count_stride" "Strides.count_stride" (defArgs s_Strides_count_stride) (defBody s_Strides_count_stride) (defScope s_Strides_count_stride) .none kV_Strides_count_stride dc_Strides_count_stride pm_Strides_count_stride an_Strides_count_stride cd_Strides_count_stride ct_Strides_count_stride
    F_Strides_count_stride := fun_mk l_Strides_count_stride cdk_Strides_count_stride kp_Strides_count_stride
    m_Strides_count_stride := ⟨a_Strides_count_stride, if_Strides_count_stride, kp_Strides_count_stride⟩
    f_Pairs_init := f_Pairs_init
    fd_Pairs_init := PySem.W.fnOf "__init__" "Pairs.__init__" (defArgs s_Pairs_init) (defBody s_Pairs_init) (defScope s_Pairs_init) .none kV_Pairs_init dc_Pairs_init pm_Pairs_init an_Pairs_init cd_Pairs_init ct_Pairs_init
    F_Pairs_init := fun_mk l_Pairs_init cdk_Pairs_init kp_Pairs_init
    mk_Pairs := ⟨mk_Pairs, a_Pairs_init, if_Pairs_init, kc_Pairs⟩
    f_Pairs_guess := f_Pairs_guess
    fd_Pairs_guess := PySem.W.fnOf "guess" "Pairs.guess" (defArgs s_Pairs_guess) (defBody s_Pairs_guess) (defScope s_Pairs_guess) .none kV_Pairs_guess dc_Pairs_guess pm_Pairs_guess an_Pairs_guess cd_Pairs_guess ct_Pairs_guess
    F_Pairs_guess := fun_mk l_Pairs_guess cdk_Pairs_guess kp_Pairs_guess
    m_Pairs_guess := ⟨a_Pairs_guess, if_Pairs_guess, kp_Pairs_guess⟩
    f_Pairs_put_behind := f_Pairs_put_behind
    fd_Pairs_put_behind := PySem.W.fnOf "put_behind" "Pairs.put_behind" (defArgs s_Pairs_put_behind) (defBody s_Pairs_put_behind) (defScope s_Pairs_put_behind) .none kV_Pairs_put_behind dc_Pairs_put_behind pm_Pairs_put_behind an_Pairs_put_behind cd_Pairs_put_behind ct_Pairs_put_behind
    F_Pairs_put_behind := fun_mk l_Pairs_put_behind cdk_Pairs_put_behind kp_Pairs_put_behind
    m_Pairs_put_behind := ⟨a_Pairs_put_behind, if_Pairs_put_behind, kp_Pairs_put_behind⟩
    f_Both_init := f_Both_init
    fd_Both_init := PySem.W.fnOf "__init__" "Both.__init__" (defArgs s_Both_init) (defBody s_Both_init) (defScope s_Both_init) .none kV_Both_init dc_Both_init pm_Both_init an_Both_init cd_Both_init ct_Both_init
    F_Both_init := fun_mk l_Both_init cdk_Both_init kp_Both_init
    mk_Both := ⟨mk_Both, a_Both_init, if_Both_init, kc_Both⟩
    f_Both_guess := f_Both_guess
    fd_Both_guess := PySem.W.fnOf "guess" "Both.guess" (defArgs s_Both_guess) (defBody s_Both_guess) (defScope s_Both_guess) .none kV_Both_guess dc_Both_guess pm_Both_guess an_Both_guess cd_Both_guess ct_Both_guess
    F_Both_guess := fun_mk l_Both_guess cdk_Both_guess kp_Both_guess
    m_Both_guess := ⟨a_Both_guess, if_Both_guess, kp_Both_guess⟩
    f_is_guesser := f_is_guesser
    fd_is_guesser := PySem.W.fnOf "is_guesser" "is_guesser" (defArgs s_is_guesser) (defBody s_is_guesser) (defScope s_is_guesser) .none kV_is_guesser dc_is_guesser pm_is_guesser an_is_guesser cd_is_guesser ct_is_guesser
    F_is_guesser := fun_mk l_is_guesser cdk_is_guesser kp_is_guesser
    g_is_guesser := PySem.W.mg_of X G a_is_guesser
    f_check_guesser := f_check_guesser
    fd_check_guesser := PySem.W.fnOf "check_guesser" "check_guesser" (defArgs s_check_guesser) (defBody s_check_guesser) (defScope s_check_guesser) .none kV_check_guesser dc_check_guesser pm_check_guesser an_check_guesser cd_check_guesser ct_check_guesser
    F_check_guesser := fun_mk l_check_guesser cdk_check_guesser kp_check_guesser
    g_check_guesser := PySem.W.mg_of X G a_check_guesser
    f_begun := f_begun
    fd_begun := PySem.W.fnOf "begun" "begun" (defArgs s_begun) (defBody s_begun) (defScope s_begun) .none kV_begun dc_begun pm_begun an_begun cd_begun ct_begun
    F_begun := fun_mk l_begun cdk_begun kp_begun
    g_begun := PySem.W.mg_of X G a_begun
    f_guesses := f_guesses
    fd_guesses := PySem.W.fnOf "guesses" "guesses" (defArgs s_guesses) (defBody s_guesses) (defScope s_guesses) .none kV_guesses dc_guesses pm_guesses an_guesses cd_guesses ct_guesses
    F_guesses := fun_mk l_guesses cdk_guesses kp_guesses
    g_guesses := PySem.W.mg_of X G a_guesses
    f_law_taken := f_law_taken
    fd_law_taken := PySem.W.fnOf "_law_taken" "_law_taken" (defArgs s_law_taken) (defBody s_law_taken) (defScope s_law_taken) .none kV_law_taken dc_law_taken pm_law_taken an_law_taken cd_law_taken ct_law_taken
    F_law_taken := fun_mk l_law_taken cdk_law_taken kp_law_taken
    g_law_taken := PySem.W.mg_of X G a_law_taken
    f_law_alike := f_law_alike
    fd_law_alike := PySem.W.fnOf "_law_alike" "_law_alike" (defArgs s_law_alike) (defBody s_law_alike) (defScope s_law_alike) .none kV_law_alike dc_law_alike pm_law_alike an_law_alike cd_law_alike ct_law_alike
    F_law_alike := fun_mk l_law_alike cdk_law_alike kp_law_alike
    g_law_alike := PySem.W.mg_of X G a_law_alike
    f_law_guesser := f_law_guesser
    fd_law_guesser := PySem.W.fnOf "_law_guesser" "_law_guesser" (defArgs s_law_guesser) (defBody s_law_guesser) (defScope s_law_guesser) .none kV_law_guesser dc_law_guesser pm_law_guesser an_law_guesser cd_law_guesser ct_law_guesser
    F_law_guesser := fun_mk l_law_guesser cdk_law_guesser kp_law_guesser
    g_law_guesser := PySem.W.mg_of X G a_law_guesser
    f_law_places := f_law_places
    fd_law_places := PySem.W.fnOf "_law_places" "_law_places" (defArgs s_law_places) (defBody s_law_places) (defScope s_law_places) .none kV_law_places dc_law_places pm_law_places an_law_places cd_law_places ct_law_places
    F_law_places := fun_mk l_law_places cdk_law_places kp_law_places
    g_law_places := PySem.W.mg_of X G a_law_places
    f_law_guessed := f_law_guessed
    fd_law_guessed := PySem.W.fnOf "_law_guessed" "_law_guessed" (defArgs s_law_guessed) (defBody s_law_guessed) (defScope s_law_guessed) .none kV_law_guessed dc_law_guessed pm_law_guessed an_law_guessed cd_law_guessed ct_law_guessed
    F_law_guessed := fun_mk l_law_guessed cdk_law_guessed kp_law_guessed
    g_law_guessed := PySem.W.mg_of X G a_law_guessed
    f_law := f_law
    fd_law := PySem.W.fnOf "law" "law" (defArgs s_law) (defBody s_law) (defScope s_law) .none kV_law dc_law pm_law an_law cd_law ct_law
    F_law := fun_mk l_law cdk_law kp_law
    g_law := PySem.W.mg_of X G a_law
    t_MOST_BOTHS := t_MOST_BOTHS
    k_MOST_BOTHS := PySem.W.mg_of X G k_MOST_BOTHS
    z_bool := PySem.W.mg_none_of X G z_bool
    z_int := PySem.W.mg_none_of X G z_int
    z_isinstance := PySem.W.mg_none_of X G z_isinstance
    z_len := PySem.W.mg_none_of X G z_len
    z_list := PySem.W.mg_none_of X G z_list
    z_max := PySem.W.mg_none_of X G z_max
    z_range := PySem.W.mg_none_of X G z_range
    z_str := PySem.W.mg_none_of X G z_str
    z_tuple := PySem.W.mg_none_of X G z_tuple }⟩
theorem walk {l : PySem.W.OpenLaw} {q : Program} {loose : List Str} {XP : (Str → Option Value) → Heap → Prop} {YP : World → Heap → Prop} {d : DefRec} {K : Params → PySem.W.Frag} (hn : l.most = some 63) (hdf : d.params.defaults = []) (hname : d.name = "law")
    (hY : ∀ (w : World) (h : Heap), YP w h → (K w.params).In h)
    (F : ∀ (w : World) (mg : Str → Option Value) (h : Heap), (K w.params).In h → h.Ns mainGlobals mg → Nonempty (Top (K w.params) mg)) :
    PySem.W.WalkO q loose XP YP l.row.toRowW d [] (fun f vs => PySem.call f vs) :=
  L2.walk_of (n := 63) (k := 20) (x := "_law_script") (CX := fun _ => CX0) (sp := fun w => spLaw (K w.params)) hn (by decide) hdf ⟨rfl, by decide, by decide⟩ hY
    (fun w mg fa h KX G hmg => by
      obtain ⟨T⟩ := F w mg h KX G
      rw [hname] at hmg
      have e := hmg.symm.trans T.g_law
      cases e
      obtain ⟨oc, od, kV, doc, pm, an, cdv, ct, osl, efd, _, _⟩ := T.F_law.ex
      refine ⟨T.fd_law, fun s v => ?_, fun base _ _ => (ok_law T).mono (by decide)⟩
      rw [efd]
      exact .of_eq rfl)
    (fun _ _ a ns hl ho hS => ⟨a, ns, rfl, scr_of ho hS, fun _ => rfl⟩) fun _ _ _ _ _ z => z

end SwD
set_option Elab.async false
open PySem PySem.W PyProof.Rows
set_option maxRecDepth 100000 in
set_option maxHeartbeats 0 in
theorem PySem.Challenge.cw_stridewell_k03_whole_what_is_guessed_holds : PySem.Challenge.rw_stridewell_k03_whole_what_is_guessed.Holds := by
  w_on; o_law; k_head; (case hw => w_witness2)
  k_fill
  refine SwD.walk (l := PySem.Challenge.rw_stridewell_k03_whole_what_is_guessed) rfl rfl rfl (fun w h Y => PySem.W.kIn_of Y) ?F
  case F =>
    intro w mg h KX G
    refine' SwD.mk_top KX G ?q0 ?q1 ?q2 ?q3 ?q4 ?q5 ?q6 ?q7 ?q8 ?q9 ?q10 ?q11 ?q12 ?q13 ?q14 ?q15 ?q16 ?q17 ?q18 ?q19 ?q20 ?q21 ?q22 ?q23 ?q24 ?q25 ?q26 ?q27 ?q28 ?q29 ?q30 ?q31 ?q32 ?q33 ?q34 ?q35 ?q36 ?q37 ?q38 ?q39 ?q40 ?q41 ?q42 ?q43 ?q44 ?q45 ?q46 ?q47 ?q48 ?q49 ?q50 ?q51 ?q52 ?q53 ?q54 ?q55 ?q56 ?q57 ?q58 ?q59 ?q60 ?q61 ?q62 ?q63 ?q64 ?q65 ?q66 ?q67 ?q68 ?q69 ?q70 ?q71 ?q72 ?q73 ?q74 ?q75 ?q76 ?q77 ?q78 ?q79 ?q80 ?q81 ?q82 ?q83 ?q84 ?q85 ?q86 ?q87 ?q88 ?q89 ?q90 ?q91 ?q92 ?q93 ?q94 ?q95 ?q96 ?q97 ?q98 ?q99 ?q100 ?q101 ?q102 ?q103 ?q104 ?q105 ?q106 ?q107 ?q108 ?q109 ?q110 ?q111 ?q112 ?q113 ?q114 ?q115 ?q116 ?q117 ?q118 ?q119 ?q120 ?q121 ?q122 ?q123 ?q124 ?q125 ?q126 ?q127 ?q128 ?q129 ?q130 ?q131 ?q132 ?q133 ?q134 ?q135 ?q136 ?q137 ?q138 ?q139 ?q140 ?q141 ?q142 ?q143 ?q144 ?q145 ?q146 ?q147 ?q148 ?q149 ?q150
    (case q0 => k_is)
    (case q1 => k_is)
    (case q2 => k_is)
    (case q3 => k_is)
    (case q4 => k_is)
    (case q5 => k_is)
    (case q6 => k_is)
    (case q7 => k_is)
    (case q8 => k_is)
    (case q9 => k_is)
    (case q10 => k_is)
    (case q11 => k_is)
    (case q12 => k_is)
    (case q13 => k_is)
    (case q14 => k_is)
    (case q15 => k_is)
    (case q16 => k_is)
    (case q17 => k_is)
    (case q18 => k_is)
    (case q19 => k_is)
    (case q20 => k_is)
    (case q21 => k_is)
    (case q22 => k_is)
    (case q23 => k_is)
    (case q24 => k_is)
    (case q25 => k_is)
    (case q26 => k_is)
    (case q27 => k_is)
    (case q28 => k_is)
    (case q29 => k_is)
    (case q30 => k_is)
    (case q31 => k_is)
    (case q32 => k_is)
    (case q33 => k_is)
    (case q34 => k_is)
    (case q35 => k_is)
    (case q36 => k_is)
    (case q37 => k_is)
    (case q38 => k_is)
    (case q39 => k_is)
    (case q40 => k_is)
    (case q41 => k_is)
    (case q42 => k_is)
    (case q43 => k_is)
    (case q44 => k_is)
    (case q45 => k_is)
    (case q46 => k_is)
    (case q47 => k_is)
    (case q48 => k_is)
    (case q49 => k_is)
    (case q50 => k_is)
    (case q51 => k_is)
    (case q52 => k_is)
    (case q53 => k_is)
    (case q54 => k_is)
    (case q55 => k_is)
    (case q56 => k_is)
    (case q57 => k_is)
    (case q58 => k_is)
    (case q59 => k_is)
    (case q60 => k_is)
    (case q61 => k_is)
    (case q62 => k_is)
    (case q63 => k_is)
    (case q64 => k_is)
    (case q65 => k_is)
    (case q66 => k_is)
    (case q67 => k_is)
    (case q68 => k_is)
    (case q69 => k_is)
    (case q70 => k_is)
    (case q71 => k_is)
    (case q72 => k_is)
    (case q73 => k_is)
    (case q74 => k_is)
    (case q75 => k_is)
    (case q76 => k_is)
    (case q77 => k_is)
    (case q78 => k_is)
    (case q79 => k_is)
    (case q80 => k_is)
    (case q81 => k_is)
    (case q82 => k_is)
    (case q83 => k_is)
    (case q84 => k_is)
    (case q85 => k_is)
    (case q86 => k_is)
    (case q87 => k_is)
    (case q88 => k_is)
    (case q89 => k_is)
    (case q90 => k_is)
    (case q91 => k_is)
    (case q92 => k_is)
    (case q93 => k_is)
    (case q94 => k_is)
    (case q95 => k_is)
    (case q96 => k_is)
    (case q97 => k_is)
    (case q98 => k_is)
    (case q99 => k_is)
    (case q100 => k_is)
    (case q101 => k_is)
    (case q102 => k_is)
    (case q103 => k_is)
    (case q104 => k_is)
    (case q105 => k_is)
    (case q106 => k_is)
    (case q107 => k_is)
    (case q108 => k_is)
    (case q109 => k_is)
    (case q110 => k_is)
    (case q111 => k_is)
    (case q112 => k_is)
    (case q113 => k_is)
    (case q114 => k_is)
    (case q115 => k_is)
    (case q116 => k_is)
    (case q117 => k_is)
    (case q118 => k_is)
    (case q119 => k_is)
    (case q120 => k_is)
    (case q121 => k_is)
    (case q122 => k_is)
    (case q123 => k_is)
    (case q124 => k_is)
    (case q125 => k_is)
    (case q126 => k_is)
    (case q127 => k_is)
    (case q128 => k_is)
    (case q129 => k_is)
    (case q130 => k_is)
    (case q131 => k_is)
    (case q132 => k_is)
    (case q133 => k_is)
    (case q134 => k_is)
    (case q135 => k_is)
    (case q136 => k_is)
    (case q137 => k_is)
    (case q138 => k_is)
    (case q139 => k_is)
    (case q140 => k_is)
    (case q141 => k_is)
    (case q142 => k_is)
    (case q143 => k_is)
    (case q144 => k_is)
    (case q145 => k_is)
    (case q146 => k_is)
    (case q147 => k_is)
    (case q148 => k_is)
    (case q149 => k_is)
    (case q150 => k_is)
