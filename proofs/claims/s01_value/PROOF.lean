import PyProof.Rows.All
import Wide.All
import OpenK.AllK
import Wide.FinOn
import KE.LtData
import HandS.List
import HandS.Comp
import HandS.Iter
import HandS.Words
import Open.SpecLaws
import KE.OsGo
import HandS.ForSpec
import PySem.Challenge.RW_noughtsets_s01_value
set_option Elab.async false
set_option linter.all false
set_option maxRecDepth 100000
set_option maxHeartbeats 1000000
namespace Nz
open Kzt1
/-! ### the row of a polynomial, cut -/
def tm (t : List Nat) : Term := ⟨t.headD 0, t.tail⟩
theorem tm_cons (c : Nat) (e : List Nat) : tm (c :: e) = ⟨c, e⟩ := rfl
def Rows (n : Nat) (T : List (List Nat)) : Prop := ∀ t ∈ T, t.length = n + 1
theorem Rows.tail {n : Nat} {t : List Nat} {T : List (List Nat)} (h : Rows n (t :: T)) : Rows n T := fun u hu => h u (List.mem_cons_of_mem _ hu)
theorem Rows.head {n : Nat} {t : List Nat} {T : List (List Nat)} (h : Rows n (t :: T)) : t.length = n + 1 := h t (List.mem_cons_self ..)
theorem flat_len {n : Nat} : ∀ {T : List (List Nat)}, Rows n T → T.flatten.length = T.length * (n + 1)
  | [], _ => by simp
  | t :: T, h => by
    rw [List.flatten_cons, List.length_append, flat_len h.tail, h.head, List.length_cons, Nat.succ_mul]
    omega
theorem cut_rows {n : Nat} : ∀ (T : List (List Nat)) (i : Nat), Rows n T → T.flatten.length ≤ i → cut n i T.flatten = some (T.map tm)
  | [], i, _, _ => by
    cases i <;> rfl
  | t :: T, i, h, hi => by
    have ht := h.head
    cases t with
    | nil => simp at ht
    | cons c e =>
      have he : e.length = n := by simpa using ht
      rw [List.flatten_cons, List.cons_append] at hi ⊢
      cases i with
      | zero => simp at hi
      | succ i =>
        have hi2 : (e ++ T.flatten).length ≤ i := by
          rw [List.length_cons] at hi
          omega
        rw [cut]
        rw [if_neg (by rw [List.length_append]; omega)]
        rw [List.drop_left' he, List.take_left' he, cut_rows T i h.tail (by rw [List.length_append] at hi2; omega)]
        rfl
theorem cut_none {n : Nat} : ∀ (i : Nat) (l : List Nat), l.length % (n + 1) ≠ 0 → l.length ≤ i → cut n i l = none
  | i, [], h, _ => by simp at h
  | 0, c :: l, _, hi => by simp at hi
  | i + 1, c :: l, h, hi => by
    rw [cut]
    by_cases hc : l.length < n
    · rw [if_pos hc]
    · rw [if_neg hc]
      rw [cut_none i (l.drop n) ?_ ?_]
      · rfl
      · rw [List.length_drop]
        rw [List.length_cons] at h
        intro q
        apply h
        have e : l.length + 1 = (l.length - n) + (n + 1) := by omega
        rw [e, Nat.add_mod_right]
        exact q
      · rw [List.length_drop]
        rw [List.length_cons] at hi
        omega
theorem rows_ex {n : Nat} : ∀ (m : Nat) (l : List Nat), l.length = m * (n + 1) → ∃ T : List (List Nat), T.flatten = l ∧ Rows n T ∧ T.length = m
  | 0, l, h => by
    rw [Nat.zero_mul] at h
    exact ⟨[], (List.eq_nil_of_length_eq_zero h).symm, (fun _ h => by cases h), rfl⟩
  | m + 1, l, h => by
    rw [Nat.succ_mul] at h
    obtain ⟨T, e1, e2, e3⟩ := rows_ex (n := n) m (l.drop (n + 1)) (by rw [List.length_drop]; omega)
    refine ⟨l.take (n + 1) :: T, ?_, ?_, by rw [List.length_cons, e3]⟩
    · rw [List.flatten_cons, e1, List.take_append_drop]
    · intro t ht
      rcases List.mem_cons.mp ht with rfl | ht
      · rw [List.length_take]
        omega
      · exact e2 t ht
/-- the i-th piece of the row is the i-th of its terms -/
theorem piece {n : Nat} : ∀ {T : List (List Nat)} {i : Nat} {t : List Nat}, Rows n T → T[i]? = some t → (T.flatten.drop (i * (n + 1))).take (n + 1) = t
  | [], i, t, _, h => by simp at h
  | u :: T, 0, t, r, h => by
    have e : u = t := Option.some.inj h
    subst e
    rw [Nat.zero_mul, List.drop_zero, List.flatten_cons, List.take_left' r.head]
  | u :: T, i + 1, t, r, h => by
    have ih := piece (i := i) r.tail h
    have hd : ((u :: T).flatten).drop ((i + 1) * (n + 1)) = T.flatten.drop (i * (n + 1)) := by
      rw [List.flatten_cons, Nat.succ_mul, Nat.add_comm, ← List.drop_drop, List.drop_left' r.head]
    rw [hd]
    exact ih
/-! ### the order of terms -/
theorem lexB_irr : ∀ e : List Nat, lexBefore e e = false
  | [] => rfl
  | a :: l => by
    rw [lexBefore, lexB_irr l]
    simp
theorem lexB_trans : ∀ (a b c : List Nat), lexBefore a b = true → lexBefore b c = true → lexBefore a c = true
  | [], _, _, h, _ => by simp [lexBefore] at h
  | _ :: _, [], _, h, _ => by simp [lexBefore] at h
  | _ :: _, _ :: _, [], _, h => by simp [lexBefore] at h
  | x :: a, y :: b, z :: c, h1, h2 => by
    simp only [lexBefore, Bool.or_eq_true, Bool.and_eq_true, decide_eq_true_eq, beq_iff_eq] at h1 h2 ⊢
    rcases h1 with h1 | ⟨h1, k1⟩ <;> rcases h2 with h2 | ⟨h2, k2⟩
    · left; omega
    · left; omega
    · left; omega
    · right
      exact ⟨by omega, lexB_trans a b c k1 k2⟩
theorem lexB_tri : ∀ (a b : List Nat), a.length = b.length → a ≠ b → lexBefore a b = false → lexBefore b a = true
  | [], [], _, h, _ => absurd rfl h
  | [], _ :: _, h, _, _ => by simp at h
  | _ :: _, [], h, _, _ => by simp at h
  | x :: a, y :: b, hl, hne, h => by
    simp only [lexBefore, Bool.or_eq_false_iff, Bool.and_eq_false_iff, decide_eq_false_iff_not, beq_eq_false_iff_ne] at h
    simp only [lexBefore, Bool.or_eq_true, Bool.and_eq_true, decide_eq_true_eq, beq_iff_eq]
    by_cases e : x = y
    · right
      subst e
      refine ⟨rfl, lexB_tri a b (by simpa using hl) (fun z => hne (by rw [z])) ?_⟩
      rcases h.2 with q | q
      · exact absurd rfl q
      · exact q
    · left
      omega
theorem bef_irr (e : List Nat) : before e e = false := by
  simp [before, lexB_irr]
theorem bef_trans {a b c : List Nat} (h1 : before a b = true) (h2 : before b c = true) : before a c = true := by
  simp only [before, Bool.or_eq_true, Bool.and_eq_true, decide_eq_true_eq, beq_iff_eq] at h1 h2 ⊢
  rcases h1 with h1 | ⟨h1, k1⟩ <;> rcases h2 with h2 | ⟨h2, k2⟩
  · left; omega
  · left; omega
  · left; omega
  · right
    exact ⟨by omega, lexB_trans a b c k1 k2⟩
theorem bef_asym {a b : List Nat} (h : before a b = true) : before b a = false := by
  cases e : before b a with
  | false => rfl
  | true =>
    have := bef_trans h e
    rw [bef_irr] at this
    cases this
theorem bef_ne {a b : List Nat} (h : before a b = true) : a ≠ b := fun e => by
  subst e
  rw [bef_irr] at h
  cases h
theorem bef_tri {a b : List Nat} (hl : a.length = b.length) (hne : a ≠ b) (h : before a b = false) : before b a = true := by
  simp only [before, Bool.or_eq_false_iff, Bool.and_eq_false_iff, decide_eq_false_iff_not, beq_eq_false_iff_ne] at h
  simp only [before, Bool.or_eq_true, Bool.and_eq_true, decide_eq_true_eq, beq_iff_eq]
  by_cases e : total a = total b
  · right
    refine ⟨e.symm, lexB_tri a b hl hne ?_⟩
    rcases h.2 with q | q
    · exact absurd e q
    · exact q
  · left
    omega
/-! ### norm -/
def Srt (l : List Term) : Prop := l.Pairwise fun a b => before a.e b.e = true
def Lens (n : Nat) (l : List Term) : Prop := ∀ t ∈ l, t.e.length = n
theorem put_mem {p : Nat} {t : Term} : ∀ {l : List Term} {u : Term}, u ∈ put p t l → u.e = t.e ∨ ∃ v ∈ l, u.e = v.e
  | [], u, h => by
    unfold put at h
    split at h
    · cases h
    · left
      rw [List.mem_singleton.mp h]
  | v :: l, u, h => by
    unfold put at h
    split at h
    · split at h
      · exact .inr ⟨u, List.mem_cons_of_mem _ h, rfl⟩
      · rcases List.mem_cons.mp h with rfl | h
        · exact .inr ⟨v, List.mem_cons_self .., rfl⟩
        · exact .inr ⟨u, List.mem_cons_of_mem _ h, rfl⟩
    · split at h
      · split at h
        · exact .inr ⟨u, h, rfl⟩
        · rcases List.mem_cons.mp h with rfl | h
          · exact .inl rfl
          · exact .inr ⟨u, h, rfl⟩
      · rcases List.mem_cons.mp h with rfl | h
        · exact .inr ⟨u, List.mem_cons_self .., rfl⟩
        · rcases put_mem h with q | ⟨w, hw, q⟩
          · exact .inl q
          · exact .inr ⟨w, List.mem_cons_of_mem _ hw, q⟩
theorem put_lens {n p : Nat} {t : Term} {l : List Term} (ht : t.e.length = n) (hl : Lens n l) : Lens n (put p t l) := fun u hu => by
  rcases put_mem hu with q | ⟨v, hv, q⟩
  · rw [q, ht]
  · rw [q, hl v hv]
theorem put_srt {n p : Nat} {t : Term} : ∀ {l : List Term}, t.e.length = n → Lens n l → Srt l → Srt (put p t l)
  | [], _, _, _ => by
    unfold put
    split
    · exact List.Pairwise.nil
    · exact List.pairwise_singleton _ _
  | v :: l, ht, hl, hs => by
    have hs1 := List.pairwise_cons.mp hs
    have hl1 : Lens n l := fun u hu => hl u (List.mem_cons_of_mem _ hu)
    unfold put
    split
    · split
      · exact hs1.2
      · exact List.pairwise_cons.mpr ⟨hs1.1, hs1.2⟩
    · rename_i hne
      split
      · rename_i hb
        split
        · exact hs
        · refine List.pairwise_cons.mpr ⟨fun u hu => ?_, hs⟩
          rcases List.mem_cons.mp hu with rfl | hu
          · exact hb
          · exact bef_trans hb (hs1.1 u hu)
      · rename_i hb
        have hvt : before v.e t.e = true := bef_tri (by rw [ht, hl v (List.mem_cons_self ..)]) hne (by simpa using hb)
        refine List.pairwise_cons.mpr ⟨fun u hu => ?_, put_srt ht hl1 hs1.2⟩
        rcases put_mem hu with q | ⟨w, hw, q⟩
        · rw [q]
          exact hvt
        · rw [q]
          exact hs1.1 w hw
theorem fold_srt {n p : Nat} : ∀ (f acc : List Term), Lens n f → Lens n acc → Srt acc → Srt (f.foldl (fun a t => put p t a) acc) ∧ Lens n (f.foldl (fun a t => put p t a) acc)
  | [], acc, _, ha, hs => ⟨hs, ha⟩
  | t :: f, acc, hf, ha, hs => by
    have ht := hf t (List.mem_cons_self ..)
    exact fold_srt f (put p t acc) (fun u hu => hf u (List.mem_cons_of_mem _ hu)) (put_lens ht ha) (put_srt ht ha hs)
theorem norm_srt {n p : Nat} {f : List Term} (h : Lens n f) : Srt (norm p f) := (fold_srt f [] h (fun _ h => by cases h) List.Pairwise.nil).1
theorem norm_lens {n p : Nat} {f : List Term} (h : Lens n f) : Lens n (norm p f) := (fold_srt f [] h (fun _ h => by cases h) List.Pairwise.nil).2
theorem put_last {p : Nat} {t : Term} (h1 : 1 ≤ t.c) (h2 : t.c < p) : ∀ {l : List Term}, (∀ u ∈ l, before u.e t.e = true) → put p t l = l ++ [t]
  | [], _ => by
    unfold put
    rw [Nat.mod_eq_of_lt h2, if_neg (by omega)]
    rfl
  | v :: l, h => by
    have hv := h v (List.mem_cons_self ..)
    unfold put
    rw [if_neg (fun e => bef_ne hv e.symm), if_neg (by rw [bef_asym hv]; exact Bool.false_ne_true), put_last h1 h2 fun u hu => h u (List.mem_cons_of_mem _ hu)]
    rfl
def Facs (p : Nat) (l : List Term) : Prop := ∀ t ∈ l, 1 ≤ t.c ∧ t.c < p
theorem fold_id {p : Nat} : ∀ (f acc : List Term), Facs p f → Srt (acc ++ f) → f.foldl (fun a t => put p t a) acc = acc ++ f
  | [], acc, _, _ => by simp
  | t :: f, acc, hf, hs => by
    have ht := hf t (List.mem_cons_self ..)
    have h1 := List.pairwise_append.mp hs
    rw [List.foldl_cons, put_last ht.1 ht.2 fun u hu => h1.2.2 u hu t (List.mem_cons_self ..)]
    have hs2 : Srt ((acc ++ [t]) ++ f) := by
      rw [List.append_assoc]
      exact hs
    rw [fold_id f (acc ++ [t]) (fun u hu => hf u (List.mem_cons_of_mem _ hu)) hs2, List.append_assoc]
    rfl
theorem norm_id {p : Nat} {f : List Term} (hf : Facs p f) (hs : Srt f) : norm p f = f := (fold_id f [] hf hs).trans (List.nil_append f)
/-! ### what is asked of a row -/
def isT (p : Nat) (t : List Nat) : Bool := decide (1 ≤ t.headD 0) && decide (t.headD 0 < p) && t.tail.all fun x => decide (x ≤ 12)
def chain : List (List Nat) → Bool
  | a :: b :: r => before a.tail b.tail && chain (b :: r)
  | _ => true
theorem chain_iff : ∀ T : List (List Nat), chain T = true ↔ ∀ (i : Nat) (a b : List Nat), T[i]? = some a → T[i + 1]? = some b → before a.tail b.tail = true
  | [] => by simp [chain]
  | [_] => by simp [chain]
  | a :: b :: r => by
    rw [chain, Bool.and_eq_true, chain_iff (b :: r)]
    constructor
    · rintro ⟨h1, h2⟩ i x y hx hy
      cases i with
      | zero =>
        have e1 : a = x := Option.some.inj hx
        have e2 : b = y := Option.some.inj hy
        rw [← e1, ← e2]
        exact h1
      | succ i => exact h2 i x y hx hy
    · intro h
      exact ⟨h 0 a b rfl rfl, fun i x y hx hy => h (i + 1) x y hx hy⟩
theorem chain_srt : ∀ T : List (List Nat), chain T = true ↔ Srt (T.map tm)
  | [] => ⟨fun _ => List.Pairwise.nil, fun _ => rfl⟩
  | [_] => ⟨fun _ => List.pairwise_singleton _ _, fun _ => rfl⟩
  | a :: b :: r => by
    rw [chain, Bool.and_eq_true, chain_srt (b :: r)]
    constructor
    · rintro ⟨h1, h2⟩
      refine List.pairwise_cons.mpr ⟨fun u hu => ?_, h2⟩
      rcases List.mem_cons.mp hu with rfl | hu
      · exact h1
      · exact bef_trans h1 ((List.pairwise_cons.mp h2).1 u hu)
    · intro h
      have h1 := List.pairwise_cons.mp h
      exact ⟨h1.1 (tm b) (List.mem_cons_self ..), h1.2⟩
def okRow (p : Nat) (T : List (List Nat)) : Bool := T.all (isT p) && chain T
theorem rows_lens {n : Nat} {T : List (List Nat)} (h : Rows n T) : Lens n (T.map tm) := fun t ht => by
  obtain ⟨u, hu, rfl⟩ := List.mem_map.mp ht
  show u.tail.length = n
  rw [List.length_tail, h u hu]
  rfl
theorem okRow_facs {p : Nat} {T : List (List Nat)} (h : T.all (isT p) = true) : Facs p (T.map tm) := fun t ht => by
  obtain ⟨u, hu, rfl⟩ := List.mem_map.mp ht
  have q := List.all_eq_true.mp h u hu
  simp only [isT, Bool.and_eq_true, decide_eq_true_eq] at q
  exact q.1
theorem okPoly_is {p n : Nat} {T : List (List Nat)} (h : Rows n T) : okPoly p n (T.map tm) = okRow p T := by
  have e1 : ((T.map tm).all fun t => decide (1 ≤ t.c) && decide (t.c < p) && t.e.length == n && t.e.all fun x => decide (x ≤ 12)) = T.all (isT p) := by
    rw [List.all_map]
    apply Bool.eq_iff_iff.mpr
    rw [List.all_eq_true, List.all_eq_true]
    have e2 : ∀ u ∈ T, ((fun t : Term => decide (1 ≤ t.c) && decide (t.c < p) && t.e.length == n && t.e.all fun x => decide (x ≤ 12)) ∘ tm) u = isT p u := fun u hu => by
      have e3 : ((tm u).e.length == n) = true := by
        rw [beq_iff_eq]
        exact rows_lens h (tm u) (List.mem_map_of_mem hu)
      show (decide (1 ≤ (tm u).c) && decide ((tm u).c < p) && (tm u).e.length == n && (tm u).e.all fun x => decide (x ≤ 12)) = isT p u
      rw [e3, Bool.and_true]
      rfl
    constructor
    · intro q u hu
      rw [← e2 u hu]
      exact q u hu
    · intro q u hu
      rw [e2 u hu]
      exact q u hu
  rw [okPoly, e1, okRow]
  by_cases c : T.all (isT p) = true
  · rw [c, Bool.true_and, Bool.true_and]
    apply Bool.eq_iff_iff.mpr
    rw [beq_iff_eq, chain_srt]
    constructor
    · intro q
      rw [← q]
      exact norm_srt (rows_lens h)
    · intro q
      exact norm_id (okRow_facs c) q
  · rw [Bool.not_eq_true] at c
    rw [c, Bool.false_and, Bool.false_and]
theorem read_rows {p n : Nat} {T : List (List Nat)} (h : Rows n T) : readPoly p n T.flatten = if okRow p T = true then some (T.map tm) else none := by
  rw [readPoly, cut_rows T _ h (Nat.le_refl _)]
  show (if okPoly p n (T.map tm) = true then some (T.map tm) else none) = _
  rw [okPoly_is h]
theorem read_none {p n : Nat} {l : List Nat} (h : l.length % (n + 1) ≠ 0) : readPoly p n l = none := by
  rw [readPoly, cut_none _ l h (Nat.le_refl _)]
end Nz
namespace Nz
open Kzt1
/-! ### values -/
/-- v times a, k times over -/
def timesN (p a : Nat) : Nat → Nat → Nat
  | 0, v => v
  | k + 1, v => timesN p a k v * a % p
theorem timesN_lt {p a : Nat} (h : 0 < p) : ∀ (k v : Nat), v < p → timesN p a k v < p
  | 0, _, hv => hv
  | k + 1, v, _ => Nat.mod_lt _ h
theorem powMod_lt {p a : Nat} (h : 0 < p) : ∀ k : Nat, powMod p a k < p
  | 0 => Nat.mod_lt _ h
  | k + 1 => Nat.mod_lt _ h
theorem timesN_is {p a : Nat} (h : 1 < p) : ∀ (k v : Nat), v < p → timesN p a k v = v * powMod p a k % p
  | 0, v, hv => by
    show v = v * (1 % p) % p
    rw [Nat.mod_eq_of_lt h, Nat.mul_one, Nat.mod_eq_of_lt hv]
  | k + 1, v, hv => by
    show timesN p a k v * a % p = v * (powMod p a k * a % p) % p
    rw [timesN_is h k v hv]
    rw [Nat.mod_mul_mod, Nat.mul_mod_mod, Nat.mul_assoc]
/-- one term: factor c, then for each unknown its number as often as told -/
def tvE (p : Nat) : List (Nat × Nat) → Nat → Nat
  | [], v => v
  | y :: r, v => tvE p r (timesN p y.2 y.1 v)
theorem tvE_is {p : Nat} (h : 1 < p) : ∀ (l : List (Nat × Nat)) (v : Nat), v < p → tvE p l v = l.foldl (fun v y => v * powMod p y.2 y.1 % p) v
  | [], _, _ => rfl
  | y :: r, v, hv => by
    show tvE p r (timesN p y.2 y.1 v) = r.foldl _ (v * powMod p y.2 y.1 % p)
    rw [← timesN_is h _ _ hv]
    exact tvE_is h r _ (timesN_lt (by omega) _ _ hv)
theorem tvE_lt {p : Nat} (h : 0 < p) : ∀ (l : List (Nat × Nat)) (v : Nat), v < p → tvE p l v < p
  | [], _, hv => hv
  | y :: r, v, hv => tvE_lt h r _ (timesN_lt h _ _ hv)
theorem tvE_app {p : Nat} : ∀ (l r : List (Nat × Nat)) (v : Nat), tvE p (l ++ r) v = tvE p r (tvE p l v)
  | [], _, _ => rfl
  | y :: l, r, v => tvE_app l r _
/-- one term at a point -/
def tv (p : Nat) (t x : List Nat) : Nat := tvE p (t.tail.zip x) (t.headD 0)
/-- all terms: each time the remainder -/
def rv (p : Nat) (x : List Nat) (T : List (List Nat)) : Nat := T.foldl (fun a t => (a + tv p t x) % p) 0
theorem rv_snoc (p : Nat) (x : List Nat) (T : List (List Nat)) (t : List Nat) : rv p x (T ++ [t]) = (rv p x T + tv p t x) % p := by
  rw [rv, List.foldl_append]
  rfl
theorem rv_lt {p : Nat} (hp : 0 < p) (x : List Nat) (T : List (List Nat)) : rv p x T < p := by
  rcases List.eq_nil_or_concat T with rfl | ⟨l, t, rfl⟩
  · exact hp
  · rw [List.concat_eq_append, rv_snoc]
    exact Nat.mod_lt _ hp
theorem fold_mod {α : Type} (p : Nat) (g : α → Nat) : ∀ (l : List α) (a : Nat), l.foldl (fun a t => (a + g t) % p) (a % p) = (l.map g).foldl (· + ·) a % p
  | [], _ => rfl
  | t :: l, a => by
    rw [List.foldl_cons, List.map_cons, List.foldl_cons, ← fold_mod p g l (a + g t), Nat.mod_add_mod]
theorem rv_is {p : Nat} {T : List (List Nat)} (hp : 1 < p) (hf : Facs p (T.map tm)) (x : List Nat) : rv p x T = Kzt1.value p (T.map tm) x := by
  have e0 : (0 : Nat) = 0 % p := (Nat.zero_mod p).symm
  rw [rv, Kzt1.value]
  have e1 : T.foldl (fun a t => (a + tv p t x) % p) (0 % p) = (T.map fun t => tv p t x).foldl (· + ·) 0 % p := fold_mod p (fun t => tv p t x) T 0
  rw [← e0] at e1
  rw [e1, List.map_map]
  congr 2
  apply List.map_congr_left
  intro t ht
  have q := hf (tm t) (List.mem_map_of_mem ht)
  exact tvE_is hp _ _ q.2
/-! ### points -/
theorem coords_snoc (p k x : Nat) : coords p (k + 1) x = coords p k x ++ [x / p ^ k % p] := by
  rw [coords, coords, List.range_succ, List.map_append]
  rfl
theorem coords_len (p n x : Nat) : (coords p n x).length = n := by
  rw [coords, List.length_map, List.length_range]
/-! ### zeros -/
def zs (p n : Nat) (T : List (List Nat)) (k : Nat) : List Nat := (List.range k).filter fun x => rv p (coords p n x) T == 0
theorem zs_succ (p n : Nat) (T : List (List Nat)) (k : Nat) : zs p n T (k + 1) = if rv p (coords p n k) T = 0 then zs p n T k ++ [k] else zs p n T k := by
  rw [zs, zs, List.range_succ, List.filter_append]
  by_cases c : rv p (coords p n k) T = 0
  · rw [if_pos c]
    simp [c]
  · rw [if_neg c]
    simp [c]
theorem zs_len (p n : Nat) (T : List (List Nat)) (k : Nat) : (zs p n T k).length ≤ k := by
  have := List.length_filter_le (fun x => rv p (coords p n x) T == 0) (List.range k)
  rw [List.length_range] at this
  exact this
theorem zs_is {p n : Nat} {T : List (List Nat)} (hp : 1 < p) (hf : Facs p (T.map tm)) : zs p n T (p ^ n) = Kzt1.zeros p n (T.map tm) := by
  rw [zs, Kzt1.zeros, space]
  congr 1
  funext x
  rw [rv_is hp hf]
  rfl
/-! ### what is due -/
def natI (l : List Nat) : List Int := l.map fun x : Nat => (x : Int)
theorem nats_natI (l : List Nat) : Kzt1Neutral.natsOf (natI l) = l := by
  rw [Kzt1Neutral.natsOf, natI, List.map_map]
  exact (List.map_congr_left fun x _ => Int.toNat_natCast x).trans (List.map_id l)
theorem okField_iff {p n : Nat} : okField p n = true ↔ (p = 2 ∨ p = 3 ∨ p = 5 ∨ p = 7) ∧ 1 ≤ n ∧ n ≤ 3 := by
  simp only [okField, Bool.and_eq_true, Bool.or_eq_true, beq_iff_eq, decide_eq_true_eq, or_assoc, and_assoc]
theorem okField_p {p n : Nat} (h : okField p n = true) : 1 < p ∧ p ≤ 7 := by
  have := (okField_iff.mp h).1
  omega
theorem okField_n {p n : Nat} (h : okField p n = true) : 1 ≤ n ∧ n ≤ 3 := (okField_iff.mp h).2
/-- is it a polynomial, with p and n as they should be -/
def isP (p n : Nat) (l : List Nat) : Bool := okField p n && (readPoly p n l).isSome
theorem isP_mod {p n : Nat} {l : List Nat} (h : l.length % (n + 1) ≠ 0) : isP p n l = false := by
  rw [isP, read_none h, Option.isSome_none, Bool.and_false]
theorem isP_rows {p n : Nat} {T : List (List Nat)} (h1 : okField p n = true) (h : Rows n T) : isP p n T.flatten = okRow p T := by
  rw [isP, read_rows h, h1, Bool.true_and]
  cases okRow p T <;> rfl
theorem isP_field {p n : Nat} {l : List Nat} (h : okField p n = false) : isP p n l = false := by
  rw [isP, h, Bool.false_and]
/-- a polynomial's terms -/
theorem isP_ex {p n : Nat} {l : List Nat} (h : isP p n l = true) : okField p n = true ∧ ∃ T : List (List Nat), T.flatten = l ∧ Rows n T ∧ okRow p T = true ∧ readPoly p n l = some (T.map tm) := by
  rw [isP, Bool.and_eq_true] at h
  refine ⟨h.1, ?_⟩
  by_cases c : l.length % (n + 1) = 0
  · obtain ⟨T, e1, e2, _⟩ := rows_ex (n := n) (l.length / (n + 1)) l (by
      have := Nat.div_add_mod l.length (n + 1)
      rw [c, Nat.add_zero, Nat.mul_comm] at this
      exact this.symm)
    subst e1
    have q := h.2
    rw [read_rows e2] at q
    by_cases o : okRow p T = true
    · exact ⟨T, rfl, e2, o, by rw [read_rows e2, if_pos o]⟩
    · rw [if_neg o] at q
      cases q
  · have q := h.2
    rw [read_none c] at q
    cases q
theorem due_refused {p n : Nat} {l : List Nat} (h : isP p n l = false) (g : List Term → Ans) : (if okField p n = false then say (-22) else withPoly p n l g) = say (-22) := by
  by_cases c : okField p n = false
  · rw [if_pos c]
  · rw [if_neg c]
    have c' : okField p n = true := by simpa using c
    rw [isP, c', Bool.true_and] at h
    rw [withPoly]
    cases e : readPoly p n l with
    | none => rfl
    | some f =>
      rw [e] at h
      cases h
theorem due_taken {p n : Nat} {l : List Nat} {f : List Term} (h : okField p n = true) (hr : readPoly p n l = some f) (g : List Term → Ans) : (if okField p n = false then say (-22) else withPoly p n l g) = g f := by
  rw [h, if_neg (by decide), withPoly, hr]
end Nz
/-! ### two words that the layer lacks: a list below a list; the values of a row -/
namespace Nz
open PySem PySem.Spec PyProof.Rows L2
def vn (l : List Nat) : List V := (natI l).map V.int
theorem vn_len (l : List Nat) : (vn l).length = l.length := by
  rw [vn, natI, List.length_map, List.length_map]
theorem vn_get {l : List Nat} {i : Nat} {x : Nat} (h : l[i]? = some x) : (vn l)[i]? = some (V.int (x : Int)) := by
  rw [vn, natI, List.getElem?_map, List.getElem?_map, h]
  rfl
theorem vn_app (l r : List Nat) : vn (l ++ r) = vn l ++ vn r := by
  rw [vn, natI, List.map_append, List.map_append]
  rfl
theorem vn_drop (l : List Nat) (k : Nat) : vn (l.drop k) = (vn l).drop k := by
  rw [vn, natI, List.map_drop, List.map_drop]
  rfl
theorem vn_take (l : List Nat) (k : Nat) : vn (l.take k) = (vn l).take k := by
  rw [vn, natI, List.map_take, List.map_take]
  rfl
theorem vn_inj : ∀ {l r : List Nat}, vn l = vn r → l = r
  | [], [], _ => rfl
  | [], _ :: _, h => by simp [vn, natI] at h
  | _ :: _, [], h => by simp [vn, natI] at h
  | a :: l, b :: r, h => by
    have h1 := List.cons.inj (show V.int (a : Int) :: vn l = V.int (b : Int) :: vn r from h)
    have h2 : (a : Int) = (b : Int) := V.int.inj h1.1
    rw [vn_inj h1.2, Int.ofNat.inj h2]
/-- two rows of numbers, the first difference decides -/
def rowLt : List Nat → List Nat → Bool
  | [], [] => false
  | [], _ :: _ => true
  | _ :: _, [] => false
  | x :: xs, y :: ys => if x = y then rowLt xs ys else decide (x < y)
def dN (l : List Nat) : PyData := .list (l.map fun x : Nat => PyData.int (x : Int))
theorem dpAll_vn {K : PySem.W.Frag} {H : Hp} : ∀ l : List Nat, DpAll K H (vn l) (l.map fun x : Nat => PyData.int (x : Int))
  | [] => .nil
  | x :: l => .cons (.int (x : Int)) (dpAll_vn l)
theorem alike_dN : ∀ l r : List Nat, PySem.W.alikeAll (l.map fun x : Nat => PyData.int (x : Int)) (r.map fun x : Nat => PyData.int (x : Int)) = true
  | [], _ => by rw [List.map_nil, PySem.W.alikeAll]
  | _ :: _, [] => by rw [List.map_nil, List.map_cons, PySem.W.alikeAll]
  | x :: l, y :: r => by
    rw [List.map_cons, List.map_cons, PySem.W.alikeAll, alike_dN l r, PySem.W.alike]
    rfl
theorem lt_dN : ∀ l r : List Nat, PyProof.Rows.lexLt PyProof.Rows.itemOrd (PySem.W.keyToksAll (l.map fun x : Nat => PyData.int (x : Int))) (PySem.W.keyToksAll (r.map fun x : Nat => PyData.int (x : Int))) = rowLt l r
  | [], [] => PyProof.Rows.lex_irrefl _
  | [], y :: r => by
    rw [List.map_nil, List.map_cons, PySem.W.toks_all_cons]
    simp only [PySem.W.keyToksAll]
    rw [PyProof.Rows.lex_diff (O := PyProof.Rows.itemOrd) (by simp)]
    rfl
  | x :: l, [] => by
    rw [List.map_nil, List.map_cons, PySem.W.toks_all_cons]
    simp only [PySem.W.keyToksAll]
    rw [PyProof.Rows.lex_diff (O := PyProof.Rows.itemOrd) (by simp)]
    rfl
  | x :: l, y :: r => by
    rw [List.map_cons, List.map_cons, rowLt]
    have ha : PySem.W.alike (.int (x : Int)) (.int (y : Int)) = true := by rw [PySem.W.alike]
    by_cases h : x = y
    · subst h
      have e : PyData.eqv (.int (x : Int)) (.int (x : Int)) = true := by simp [PyData.eqv]
      rw [if_pos rfl, PySem.W.dataLt_all_yes ha e, lt_dN l r]
    · have e : PyData.eqv (.int (x : Int)) (.int (y : Int)) = false := by
        simp [PyData.eqv]
        omega
      rw [if_neg h, PySem.W.dataLt_all_no ha e, PySem.W.dataLt_int]
      apply decide_eq_decide.mpr
      omega
theorem depth_dN (l : List Nat) : (dN l).depth ≤ 1 := by
  have h : ∀ l : List Nat, PyData.depthAll (l.map fun x : Nat => PyData.int (x : Int)) = 0 := fun l => by
    induction l with
    | nil => rfl
    | cons x l ih =>
      rw [List.map_cons, PyData.depthAll, ih]
      rfl
  rw [dN, PyData.depth, h]
  exact Nat.le_refl _
def rLtN (K : PySem.W.Frag) : R2 := fun x y H Q => ∃ (a b : Addr) (l r : List Nat), x = .ref a ∧ y = .ref b ∧ SqL K H a (vn l) ∧ SqL K H b (vn r) ∧ Q (.bl (rowLt l r)) H
theorem op_ltN {X : Cx} (hu : X.A.units + 64 < cLine) : OpR X (compareOp .Lt) (rLtN X.K) := by
  intro pins s σ H x y v u Q I rx ry h
  obtain ⟨a, b, l, r, rfl, rfl, hl, hr, q⟩ := h
  obtain ⟨as, r1⟩ := Dp.reads I (dN l) (.ref a) v (.lst hl (dpAll_vn l)) rx
  obtain ⟨bs, r2⟩ := Dp.reads I (dN r) (.ref b) u (.lst hr (dpAll_vn r)) ry
  have e : PySem.W.dataLt (dN l) (dN r) = rowLt l r := (PySem.W.dataLt_list _ _).trans (lt_dN l r)
  have hal : PySem.W.alike (dN l) (dN r) = true := by
    rw [dN, dN, PySem.W.alike]
    exact alike_dN l r
  have hd := depth_dN l
  refine PySem.W.rcLt_alike (dN l) (dN r) X.A s v u as bs r1 r2 hal (fun z => nomatch z) (Nat.lt_of_le_of_lt (Nat.add_le_add_left (Nat.le_trans (Nat.min_le_left _ _) (Nat.le_trans hd (by decide : 1 ≤ 64))) _) hu) X.prog X.w X.xe _ ?_
  rw [e]
  exact ⟨.bl _, H, I, rfl, q⟩
/-- the order of terms by rows: the degree ahead -/
theorem rowLt_lex : ∀ (l r : List Nat), l.length = r.length → rowLt l r = Kzt1.lexBefore l r
  | [], [], _ => rfl
  | [], _ :: _, h => by simp at h
  | _ :: _, [], h => by simp at h
  | x :: l, y :: r, h => by
    rw [rowLt, Kzt1.lexBefore, rowLt_lex l r (by simpa using h)]
    by_cases e : x = y
    · subst e
      simp
    · rw [if_neg e]
      simp [e]
theorem rowLt_before {l r : List Nat} (h : l.length = r.length) : rowLt (Kzt1.total l :: l) (Kzt1.total r :: r) = Kzt1.before l r := by
  rw [rowLt, rowLt_lex l r h, Kzt1.before]
  by_cases e : Kzt1.total l = Kzt1.total r
  · rw [if_pos e]
    simp [e]
  · rw [if_neg e]
    simp [e]
/-! ### slices, sums -/
theorem cut_tail (l : List Nat) : cutV (vn l) (some 1) none = vn l.tail := by
  have e1 : HT.sIx (vn l).length 0 (some 1) = min 1 (vn l).length := HT.sIx_nat _ 0 1
  have e2 : l.tail = l.drop 1 := by rw [List.drop_one]
  rw [cutV, e1, HT.sIx_none, e2, vn_drop]
  rcases Nat.eq_zero_or_pos (vn l).length with h | h
  · rw [List.eq_nil_of_length_eq_zero h]
    rfl
  · rw [show min 1 (vn l).length = 1 by omega]
    apply List.take_of_length_le
    rw [List.length_drop]
    exact Nat.le_refl _
theorem cut_piece (l : List Nat) (i j : Nat) (h : i ≤ j) (hj : j ≤ l.length) : cutV (vn l) (some (i : Int)) (some (j : Int)) = vn ((l.drop i).take (j - i)) := by
  rw [cutV, HT.sIx_nat, HT.sIx_nat, vn_len, vn_take, vn_drop, Nat.min_eq_left hj, Nat.min_eq_left (by omega)]
theorem total_cons (x : Nat) (l : List Nat) : Kzt1.total (x :: l) = x + Kzt1.total l := by
  have h : ∀ (l : List Nat) (a b : Nat), l.foldl (· + ·) (a + b) = a + l.foldl (· + ·) b := fun l => by
    induction l with
    | nil => intro a b; rfl
    | cons y l ih =>
      intro a b
      rw [List.foldl_cons, List.foldl_cons, Nat.add_assoc, ih]
  show l.foldl (· + ·) (0 + x) = x + l.foldl (· + ·) 0
  rw [Nat.zero_add]
  exact h l x 0
theorem sum_natI : ∀ l : List Nat, (natI l).sum = ((Kzt1.total l : Nat) : Int)
  | [] => rfl
  | x :: l => by
    show ((x : Int) :: natI l).sum = _
    rw [List.sum_cons, sum_natI l, total_cons]
    omega
/-! ### heaps -/
theorem same_upd {H : Hp} {p : Addr} {o : HO} (h : H p = none) : Same H (upd H p o) := fun b x e => by
  rw [upd_ne (ne_of_none e h)]
  exact e
/-- a list of rows -/
def TAt (K : PySem.W.Frag) (H : Hp) (a : Addr) (T : List (List Nat)) : Prop := ∃ as : List Addr, SqL K H a (as.map V.ref) ∧ as.length = T.length ∧ ∀ (i : Nat) (b : Addr) (t : List Nat), as[i]? = some b → T[i]? = some t → SqL K H b (vn t)
theorem TAt.same {K : PySem.W.Frag} {H H' : Hp} {a : Addr} {T : List (List Nat)} (e : Same H H') (h : TAt K H a T) : TAt K H' a T := by
  obtain ⟨as, h1, h2, h3⟩ := h
  exact ⟨as, e.seq h1, h2, fun i b t hb ht => e.seq (h3 i b t hb ht)⟩
/-! ### lists of rows that stand by themselves -/
def TTr (H : Hp) (a : Addr) (T : List (List Nat)) : Prop := ∃ as : List Addr, H a = some (.lst (as.map V.ref)) ∧ as.length = T.length ∧ ∀ (i : Nat) (b : Addr) (t : List Nat), as[i]? = some b → T[i]? = some t → H b = some (.lst (vn t))
theorem TTr.at_ {K : PySem.W.Frag} {H : Hp} {a : Addr} {T : List (List Nat)} (h : TTr H a T) : TAt K H a T := by
  obtain ⟨as, h1, h2, h3⟩ := h
  exact ⟨as, SqL.of h1, h2, fun i b t hb ht => SqL.of (h3 i b t hb ht)⟩
theorem TTr.same {H H' : Hp} {a : Addr} {T : List (List Nat)} (e : Same H H') (h : TTr H a T) : TTr H' a T := by
  obtain ⟨as, h1, h2, h3⟩ := h
  exact ⟨as, e _ _ h1, h2, fun i b t hb ht => e _ _ (h3 i b t hb ht)⟩
theorem get_ex {α β : Type} {l : List α} {r : List β} {i : Nat} {x : α} (hl : l.length = r.length) (h : l[i]? = some x) : ∃ y, r[i]? = some y := by
  obtain ⟨h1, _⟩ := List.getElem?_eq_some_iff.mp h
  exact ⟨r[i]'(by omega), List.getElem?_eq_getElem (by omega)⟩
theorem map_get {α β : Type} {l : List α} {f : α → β} {i : Nat} {y : β} (h : (l.map f)[i]? = some y) : ∃ x, l[i]? = some x ∧ y = f x := by
  rw [List.getElem?_map] at h
  cases e : l[i]? with
  | none =>
    rw [e] at h
    cases h
  | some x =>
    rw [e] at h
    exact ⟨x, rfl, (Option.some.inj h).symm⟩
/-- one item more -/
theorem take_more {α : Type} {l : List α} {i : Nat} {x : α} (h : l[i]? = some x) : l.take (i + 1) = l.take i ++ [x] := by
  rw [List.take_add_one, h]
  rfl
end Nz
namespace Nz
open PySem PySem.Spec PyProof.Rows L2
def topS (i : Nat) : Stmt := PySem.Challenge.pw_noughtsets_s01_value.main.body.getD i (.Pass ⟨0, 0, 0, 0⟩)
abbrev sIs : Stmt := topS 8
section
variable {P : Program} {w : World} {K : PySem.W.Frag} {mg : Str → Option Value} {base : Heap}
/-! ### is_space -/
theorem scIs : FnScope ["p", "n"] ["p", "n"] (defScope sIs) := ⟨rfl, rfl, rfl, by decide +kernel, rfl, by decide +kernel, by decide +kernel⟩
def spIs : Sp := fun vs H Q _ => ∃ (p n : Nat), vs = [.int (p : Int), .int (n : Int)] ∧ Q (.bl (Kzt1.okField p n)) H
theorem in_primes (p : Nat) : inV (.int (p : Int)) [.int 2, .int 3, .int 5, .int 7] = (p == 2 || p == 3 || p == 5 || p == 7) := by
  have e : ∀ k : Nat, ((k : Int) == (p : Int)) = (p == k) := fun k => by
    rw [Bool.eq_iff_iff, beq_iff_eq, beq_iff_eq]
    omega
  show ((2 : Int) == (p : Int) || ((3 : Int) == (p : Int) || ((5 : Int) == (p : Int) || ((7 : Int) == (p : Int) || false)))) = _
  rw [show ((2 : Int) == (p : Int)) = (p == 2) from e 2, show ((3 : Int) == (p : Int)) = (p == 3) from e 3, show ((5 : Int) == (p : Int)) = (p == 5) from e 5, show ((7 : Int) == (p : Int)) = (p == 7) from e 7, Bool.or_false, Bool.or_assoc, Bool.or_assoc]
theorem ok_is {f aP : Addr} {fd : FuncData} {k : Nat} {tM : Tok} (F : Fun K "is_space" "is_space" sIs f fd) (gP : mg "PRIMES" = some (.ref aP)) (hP : ∀ H : Hp, SqT K H aP [.int 2, .int 3, .int 5, .int 7]) (gM : mg "MOST_UNKNOWNS" = some (.int 3 tM)) : FnOk P w K mg base CX0 (k + 1) f fd ["p", "n"] spIs := by
  refine F.ok scIs (fun vs H Q E h => ?_) (fun cdv A outer s H vs Q E hr h => ?_)
  · obtain ⟨p, n, rfl, _⟩ := h
    rfl
  · obtain ⟨p, n, rfl, q⟩ := h
    refine ⟨_, pss_one (ps_ret (pe_and (pe_cmpR op_in_seq (pv 0) (pe_glob (v := .ref aP) rfl gP rfl) (by rfl)) (pe_and (pe_cmpR op_le pe_int (pv 1) (nomark _)) (pe_one (pe_cmpR op_le (pv 1) (pe_glob (v := .int 3) rfl gM ⟨_, rfl⟩) (nomark _)))))), ?_⟩
    refine ⟨_, rfl, aP, _, rfl, .inr (hP H), rfl, rfl, _, rfl, ?_⟩
    have e : Kzt1.okField p n = ((p == 2 || p == 3 || p == 5 || p == 7) && decide (1 ≤ n) && decide (n ≤ 3)) := rfl
    show if inV (.int (p : Int)) [.int 2, .int 3, .int 5, .int 7] = true then _ else _
    rw [in_primes]
    cases c1 : (p == 2 || p == 3 || p == 5 || p == 7) with
    | false =>
      rw [e, c1] at q
      exact iteF q
    | true =>
      refine iteT ⟨_, rfl, _, _, rfl, rfl, _, rfl, ?_⟩
      have e2 : decide ((1 : Int) ≤ (n : Int)) = decide (1 ≤ n) := decide_eq_decide.mpr (by omega)
      rw [e2]
      cases c2 : decide (1 ≤ n) with
      | false =>
        rw [e, c1, c2] at q
        exact iteF q
      | true =>
        refine iteT ⟨_, rfl, _, _, rfl, rfl, ?_⟩
        have e3 : decide ((n : Int) ≤ (3 : Int)) = decide (n ≤ 3) := decide_eq_decide.mpr (by omega)
        show Q (V.bl (decide ((n : Int) ≤ (3 : Int)))) H
        rw [e3]
        rw [e, c1, c2] at q
        exact q
end
end Nz
namespace Nz
open PySem PySem.Spec PyProof.Rows L2
abbrev sTp : Stmt := topS 11
section
variable {P : Program} {w : World} {K : PySem.W.Frag} {mg : Str → Option Value} {base : Heap}
/-! ### term_place -/
theorem scTp : FnScope ["term"] ["term"] (defScope sTp) := ⟨rfl, rfl, rfl, by decide +kernel, rfl, by decide +kernel, by decide +kernel⟩
def spTp (K : PySem.W.Frag) : Sp := fun vs H Q _ => ∃ (a : Addr) (t : List Nat), vs = [.ref a] ∧ SqL K H a (vn t) ∧ t.length ≤ 1000 ∧ ∀ (H' : Hp) (o : Addr), Same H H' → H' o = some (.lst (vn (Kzt1.total t.tail :: t.tail))) → Q (.ref o) H'
theorem ok_tp {f : Addr} {fd : FuncData} {k : Nat} (F : Fun K "term_place" "term_place" sTp f fd) (ms : mg "sum" = none) : FnOk P w K mg base CX0 (k + 1) f fd ["term"] (spTp K) := by
  refine F.ok scTp (fun vs H Q E h => ?_) (fun cdv A outer s H vs Q E hr h => ?_)
  · obtain ⟨a, t, rfl, _⟩ := h
    rfl
  · obtain ⟨a, t, rfl, hT, hlen, q⟩ := h
    refine ⟨_, pss_one (ps_ret (pe_op op_cat (pe_lst (pa_cons (pe_callB (cr_sum rfl) (by rfl) ms (by decide +kernel) (pa_cons (pe_slice sl_list (pv 0) (po_some pe_int) po_none) pa_nil)) pa_nil)) (pe_slice sl_list (pv 0) (po_some pe_int) po_none))), ?_⟩
    refine ⟨_, rfl, 1, rfl, a, _, rfl, hT, fun o no => ?_⟩
    rw [cut_tail]
    have s1 : Same H (upd H o (.lst (vn t.tail))) := same_upd no
    refine ⟨o, natI t.tail, rfl, SqL.of upd_same, (by show 1 ≤ sizeLine; decide), fun o2 no2 => ?_⟩
    have s2 := same_upd (o := .lst [.int (natI t.tail).sum]) no2
    refine ⟨_, rfl, 1, rfl, a, _, rfl, (s1.trans s2).seq hT, fun o3 no3 => ?_⟩
    rw [cut_tail]
    have s3 := same_upd (o := .lst (vn t.tail)) no3
    refine ⟨o2, o3, _, _, rfl, rfl, s3 _ _ upd_same, upd_same, ?_, fun o4 no4 => ?_⟩
    · rw [vn_len, List.length_tail]
      show 1 + (t.length - 1) ≤ sizeLine
      exact Nat.le_of_lt (small1000 (by omega))
    · refine q _ o4 (((s1.trans s2).trans s3).trans (same_upd no4)) ?_
      rw [upd_same, sum_natI]
      rfl
end
end Nz
namespace Nz
open PySem PySem.Spec PyProof.Rows L2
abbrev sIt : Stmt := topS 9
section
variable {P : Program} {w : World} {K : PySem.W.Frag} {mg : Str → Option Value} {base : Heap}
/-! ### is_term -/
theorem scIt : FnScope ["p", "term"] ["p", "term"] (defScope sIt) := ⟨rfl, rfl, rfl, by decide +kernel, rfl, by decide +kernel, by decide +kernel⟩
def spIt (K : PySem.W.Frag) : Sp := fun vs H Q _ => ∃ (p : Nat) (a : Addr) (t : List Nat), vs = [.int (p : Int), .ref a] ∧ SqL K H a (vn t) ∧ 2 ≤ t.length ∧ ∀ H' : Hp, Same H H' → Q (.bl (isT p t)) H'
theorem two_of {t : List Nat} (h : 2 ≤ t.length) : ∃ c u e, t = c :: u :: e := by
  match t, h with
  | c :: u :: e, _ => exact ⟨c, u, e, rfl⟩
theorem mem_natI {l : List Nat} {m : Int} (h : m ∈ natI l) : ∃ y ∈ l, m = ((y : Nat) : Int) := by
  obtain ⟨y, hy, e⟩ := List.mem_map.mp h
  exact ⟨y, hy, e.symm⟩
theorem ok_it {f : Addr} {fd : FuncData} {k : Nat} {tM : Tok} (F : Fun K "is_term" "is_term" sIt f fd) (mm : mg "max" = none) (gM : mg "MOST_OFTEN" = some (.int 12 tM)) : FnOk P w K mg base CX0 (k + 1) f fd ["p", "term"] (spIt K) := by
  refine F.ok scIt (fun vs H Q E h => ?_) (fun cdv A outer s H vs Q E hr h => ?_)
  · obtain ⟨p, a, t, rfl, _⟩ := h
    rfl
  · obtain ⟨p, a, t, rfl, hT, hlen, q⟩ := h
    refine ⟨_, pss_one (ps_ret (pe_and (pe_cmpR op_le pe_int (pe_ix ix_list (pv 1) pe_int (fun _ _ => rfl)) (nomark _))
      (pe_and (pe_cmpR op_lt (pe_ix ix_list (pv 1) pe_int (fun _ _ => rfl)) (pv 0) (nomark _))
      (pe_one (pe_cmpR op_le (pe_callB (cr_max rfl) (by rfl) mm (by decide +kernel) (pa_cons (pe_slice sl_list (pv 1) (po_some pe_int) po_none) pa_nil)) (pe_glob (v := .int 12) rfl gM ⟨_, rfl⟩) (nomark _)))))), ?_⟩
    obtain ⟨c, u, e, rfl⟩ := two_of hlen
    have e0 : isT p (c :: u :: e) = (decide (1 ≤ c) && decide (c < p) && (u :: e).all fun x => decide (x ≤ 12)) := rfl
    refine ⟨_, rfl, a, _, 0, .int (c : Int), rfl, rfl, hT, atI_nat (j := 0) rfl, _, _, rfl, rfl, _, rfl, ?_⟩
    rw [show decide ((1 : Int) ≤ (c : Int)) = decide (1 ≤ c) from decide_eq_decide.mpr (by omega)]
    cases c1 : decide (1 ≤ c) with
    | false =>
      rw [e0, c1] at q
      exact iteF (q H (Same.refl H))
    | true =>
      refine iteT ⟨_, rfl, a, _, 0, .int (c : Int), rfl, rfl, hT, atI_nat (j := 0) rfl, _, rfl, _, _, rfl, rfl, _, rfl, ?_⟩
      rw [show decide ((c : Int) < (p : Int)) = decide (c < p) from decide_eq_decide.mpr (by omega)]
      cases c2 : decide (c < p) with
      | false =>
        rw [e0, c1, c2] at q
        exact iteF (q H (Same.refl H))
      | true =>
        refine iteT ⟨_, rfl, 1, rfl, a, _, rfl, hT, fun o no => ?_⟩
        rw [cut_tail]
        refine ⟨o, natI (u :: e), rfl, SqL.of upd_same, by simp [natI], fun m hm hle => ⟨_, _, rfl, rfl, ?_⟩⟩
        have e3 : decide (m ≤ 12) = ((u :: e).all fun x => decide (x ≤ 12)) := by
          rw [Bool.eq_iff_iff, decide_eq_true_eq, List.all_eq_true]
          constructor
          · intro h y hy
            have := hle (y : Int) (List.mem_map_of_mem hy)
            exact decide_eq_true (by omega)
          · intro h
            obtain ⟨y, hy, rfl⟩ := mem_natI hm
            have := of_decide_eq_true (h y hy)
            omega
        show Q (V.bl (decide (m ≤ 12))) _
        rw [e3]
        rw [e0, c1, c2] at q
        exact q _ (same_upd no)
end
end Nz
namespace Nz
open PySem PySem.Spec PyProof.Rows L2
abbrev sCt : Stmt := topS 12
abbrev sIo : Stmt := topS 10
abbrev sIp : Stmt := topS 7
section
variable {P : Program} {w : World} {K : PySem.W.Frag} {mg : Str → Option Value} {base : Heap}
/-! ### cut_terms -/
theorem scCt : FnScope ["n", "f", "k"] ["n", "f"] (defScope sCt) := ⟨rfl, rfl, rfl, by decide +kernel, rfl, by decide +kernel, by decide +kernel⟩
def spCt (K : PySem.W.Frag) : Sp := fun vs H Q _ => ∃ (n : Nat) (a : Addr) (T : List (List Nat)), vs = [.int (n : Int), .ref a] ∧ SqL K H a (vn T.flatten) ∧ Rows n T ∧ n ≤ 3 ∧ T.flatten.length ≤ 400 ∧ ∀ (H' : Hp) (o : Addr), Same H H' → TTr H' o T → Q (.ref o) H'
theorem rg_cut {m n : Nat} (hn : n ≤ 3) (hm : m * (n + 1) ≤ 400) : RgC 0 ((m * (n + 1) : Nat) : Int) ((n : Int) + 1) m := by
  have e : Builtin.Range.rangeSize 0 ((m * (n + 1) : Nat) : Int) ((n : Int) + 1) = (m : Int) := by
    rw [rangeSize_pos (by omega) (by omega)]
    have e1 : ((m * (n + 1) : Nat) : Int) + ((n : Int) + 1) - 1 = (n : Int) + (m : Int) * ((n : Int) + 1) := by
      rw [Int.natCast_mul, Int.natCast_add]
      show (m : Int) * ((n : Int) + 1) + ((n : Int) + 1) - 1 = _
      omega
    rw [e1, Int.add_mul_ediv_right _ _ (by omega), Int.ediv_eq_zero_of_lt (by omega) (by omega)]
    omega
  have hm2 : m ≤ 400 := Nat.le_trans (Nat.le_mul_of_pos_right m (by omega)) hm
  refine ⟨by omega, by omega, ?_, e⟩
  unfold Builtin.Range.small
  rw [e]
  simp only [Builtin.Range.rangeFitsLong, Bool.and_eq_true, Bool.or_eq_true, decide_eq_true_eq, beq_iff_eq]
  have e3 : ((m * (n + 1) : Nat) : Int) ≤ 400 := Int.ofNat_le.mpr hm
  have e4 : (0 : Int) ≤ ((m * (n + 1) : Nat) : Int) := Int.natCast_nonneg _
  generalize ((m * (n + 1) : Nat) : Int) = z at e3 e4 ⊢
  refine ⟨⟨⟨⟨⟨by decide, by decide⟩, by omega, by omega⟩, by omega, by omega⟩, by omega, by omega⟩, .inr ?_⟩
  rw [if_pos (by omega), Bool.and_eq_true, decide_eq_true_eq, decide_eq_true_eq]
  exact ⟨by omega, by omega⟩
theorem ok_ct {f : Addr} {fd : FuncData} {k : Nat} (F : Fun K "cut_terms" "cut_terms" sCt f fd) (mr : mg "range" = none) (ml : mg "len" = none) : FnOk P w K mg base CX0 (k + 1) f fd ["n", "f"] (spCt K) := by
  refine F.ok scCt (fun vs H Q E h => ?_) (fun cdv A outer s H vs Q E hr h => ?_)
  · obtain ⟨n, a, T, rfl, _⟩ := h
    rfl
  · obtain ⟨n, a, T, rfl, hF, hR, hn, hlen, q⟩ := h
    refine ⟨_, pss_one (ps_ret (pe_lc (own := [("k", 2)]) (g := gName 2) (tt := tYes) (te := tSl (rSlL K) (tVar 1) (tPart (tVar 2)) (tPart (tOp (rI0 fun i j => .int (i + j)) (tOp (rI0 fun i j => .int (i + j)) (tVar 2) (tVar 0)) (tC (.int 1))))) rfl scCt.nd
      (pi_range3 rfl mr (pa_cons pe_int (pa_cons (pe_callB call_len_seq (by rfl) ml PySem.boot_len (pa_cons (pv 1) pa_nil)) (pa_cons (pe_op op_add (pv 0) pe_int) pa_nil))))
      (blkOk_by (own := [("k", 2)]) (N := ["n", "f", "k"]) (sc := defScope sCt) (by decide +kernel))
      (fun _ _ _ _ _ => pg_name (i := 2) scCt.nd rfl (Or.inl rfl)) (fun _ _ _ _ _ => pts_nil)
      (fun _ _ _ _ _ => pe_slice sl_list (pv 1) (po_some (pv 2)) (po_some (pe_op op_add (pe_op op_add (pv 2) (pv 0)) pe_int))))), ?_⟩
    have hfl := flat_len hR
    refine ⟨_, rfl, a, _, rfl, .inl hF, _, rfl, _, _, rfl, rfl, 0, ((T.length * (n + 1) : Nat) : Int), ((n : Int) + 1), T.length, ?_, rg_cut hn (by omega), fun D hD => ?_⟩
    · rw [vn_len, hfl]
    have s1 : Same H (upd H D (.lst [])) := same_upd hD
    refine ⟨fun i m H' => m = T.length - i ∧ i ≤ T.length ∧ Same H H' ∧ ∃ as : List Addr, H' D = some (.lst (as.map V.ref)) ∧ as.length = i ∧ ∀ (j : Nat) (b : Addr) (t : List Nat), as[j]? = some b → T[j]? = some t → b ≠ D ∧ H' b = some (.lst (vn t)),
      ⟨T.length, rfl, Nat.zero_le _, s1, [], upd_same, rfl, fun j b t hb => by simp at hb⟩, ?_⟩
    rintro i m H' ⟨rfl, hi, sm, as, hDs, has, hall⟩
    by_cases hlt : i < T.length
    · refine .inr ⟨hlt, fun H2 => Same H H2 ∧ ∃ as : List Addr, H2 D = some (.lst (as.map V.ref)) ∧ as.length = i + 1 ∧ ∀ (j : Nat) (b : Addr) (t : List Nat), as[j]? = some b → T[j]? = some t → b ≠ D ∧ H2 b = some (.lst (vn t)), fun H2 hN => ?_, fun y H2 hy => ?_⟩
      · exact ⟨T.length - (i + 1), by omega, rfl, hlt, hN⟩
      · obtain ⟨rfl, rfl⟩ := hy
        obtain ⟨t, hti⟩ : ∃ t, T[i]? = some t := ⟨T[i], List.getElem?_eq_getElem hlt⟩
        have e1 : (0 : Int) + (i : Int) * ((n : Int) + 1) = ((i * (n + 1) : Nat) : Int) := by
          rw [Int.natCast_mul, Int.natCast_add]
          show _ = (i : Int) * ((n : Int) + 1)
          omega
        have e2 : ((i * (n + 1) : Nat) : Int) + (n : Int) + 1 = ((i * (n + 1) + (n + 1) : Nat) : Int) := by omega
        have hle : i * (n + 1) + (n + 1) ≤ T.flatten.length := by
          rw [hfl, ← Nat.succ_mul]
          exact Nat.mul_le_mul_right _ hlt
        refine ⟨rfl, _, rfl, _, rfl, _, rfl, _, rfl, _, rfl, _, _, rfl, rfl, _, _, rfl, rfl, _, rfl, a, _, rfl, sm.seq hF, fun o no => ?_⟩
        rw [e1, e2, cut_piece _ _ _ (by omega) hle, Nat.add_sub_cancel_left, piece hR hti]
        have s3 : Same H2 (upd H2 o (.lst (vn t))) := same_upd no
        have hDo : D ≠ o := ne_of_none hDs no
        refine ⟨as.map V.ref, ?_, ?_, ?_⟩
        · rw [upd_ne hDo]
          exact hDs
        · have hTl : T.length ≤ 400 := Nat.le_trans (Nat.le_mul_of_pos_right _ (by omega)) (hfl ▸ hlen)
          rw [List.length_map]
          exact small1000 (by omega)
        · have hnew : ∀ b z, b ≠ D → (upd H2 o (.lst (vn t))) b = some z → (upd (upd H2 o (.lst (vn t))) D (.lst (as.map V.ref ++ [V.ref o]))) b = some z := fun b z hb e => by
            rw [upd_ne hb]
            exact e
          have sAll : Same H (upd (upd H2 o (.lst (vn t))) D (.lst (as.map V.ref ++ [V.ref o]))) := fun b z e => hnew b z (ne_of_none e hD) (s3 b z (sm b z e))
          refine ⟨sAll, as ++ [o], ?_, ?_, ?_⟩
          · rw [upd_same, List.map_append]
            rfl
          · rw [List.length_append, has]
            rfl
          · intro j b u hb hu
            rcases Nat.lt_or_ge j as.length with hj | hj
            · rw [List.getElem?_append_left hj] at hb
              obtain ⟨h1, h2⟩ := hall j b u hb hu
              exact ⟨h1, hnew b _ h1 (s3 b _ h2)⟩
            · rw [List.getElem?_append_right hj] at hb
              have e3 : j = i := by
                have := (List.getElem?_eq_some_iff.mp hb).1
                rw [List.length_singleton] at this
                omega
              subst e3
              rw [has, Nat.sub_self] at hb
              have e4 : o = b := Option.some.inj hb
              have e5 : t = u := Option.some.inj (hti.symm.trans hu)
              subst e4 e5
              exact ⟨hDo.symm, hnew o _ hDo.symm upd_same⟩
    · have e : i = T.length := by omega
      subst e
      exact .inl ⟨Nat.le_refl _, q H' D sm ⟨as, hDs, has, fun j b t hb ht => (hall j b t hb ht).2⟩⟩
/-! ### is_in_order -/
theorem scIo : FnScope ["terms", "k"] ["terms"] (defScope sIo) := ⟨rfl, rfl, rfl, by decide +kernel, rfl, by decide +kernel, by decide +kernel⟩
def spIo (K : PySem.W.Frag) : Sp := fun vs H Q _ => ∃ (a : Addr) (T : List (List Nat)) (n : Nat), vs = [.ref a] ∧ TAt K H a T ∧ Rows n T ∧ n ≤ 3 ∧ T.length ≤ 400 ∧ ∀ H' : Hp, Same H H' → Q (.bl (chain T)) H'
theorem ok_io {f fP : Addr} {fd fdP : FuncData} {k : Nat} (F : Fun K "is_in_order" "is_in_order" sIo f fd) (FP : Fun K "term_place" "term_place" sTp fP fdP) (bP : Binds K fdP ["term"] []) (gP : mg "term_place" = some (.ref fP)) (mr : mg "range" = none) (ml : mg "len" = none) (ms : mg "sum" = none) :
    FnOk P w K mg base CX0 (k + 1 + 1) f fd ["terms"] (spIo K) := by
  have GP : FnOk P w K mg base CX0 (k + 1) fP fdP ["term"] (spTp K) := ok_tp FP ms
  refine F.ok scIo (fun vs H Q E h => ?_) (fun cdv A outer s H vs Q E hr h => ?_)
  · obtain ⟨a, T, n, rfl, _⟩ := h
    rfl
  · obtain ⟨a, T, n, rfl, hT, hR, hn, hlen, q⟩ := h
    refine ⟨_, pss_cons (ps_for PassesOwn.never rfl (pi_range2 (by rfl) mr (pa_cons pe_int (pa_cons (pe_callB call_len_seq (by rfl) ml PySem.boot_len (pa_cons (pv 0) pa_nil)) pa_nil))) (pg_name (i := 1) scIo.nd rfl (.inl rfl))
        (pss_one (ps_if (pt_not (pt_cmpR (op_ltN hr.units) (pe_call GP hr (by rfl) gP FP.kp bP .nil pass0 (pa_cons (pe_ix ix_list (pv 0) (pe_op op_sub (pv 1) pe_int) (fun _ _ => rfl)) pa_nil))
          (pe_call GP hr (by rfl) gP FP.kp bP .nil pass0 (pa_cons (pe_ix ix_list (pv 0) (pv 1) (fun _ _ => rfl)) pa_nil)) (nomark _)))
          (pss_one (ps_ret pe_bl)) pss_nil)))
      (pss_one (ps_ret pe_bl)), ?_⟩
    obtain ⟨as, h1, h2, h3⟩ := hT
    have el : (as.map V.ref).length = T.length := by rw [List.length_map, h2]
    refine ⟨_, rfl, a, _, rfl, .inl h1, 1, (T.length : Int), by rw [el], ⟨by omega, by omega, by omega, by omega⟩, ?_⟩
    have en : ((T.length : Int) - 1).toNat = T.length - 1 := by omega
    rw [en]
    refine for_range (lo := 1) (n := T.length - 1) (fun i σ H' => (∃ v1, σ = [some (.ref a), v1]) ∧ Same H H' ∧ ∀ (j : Nat) (x y : List Nat), j < i → T[j]? = some x → T[j + 1]? = some y → Kzt1.before x.tail y.tail = true) ⟨⟨none, rfl⟩, Same.refl H, fun j x y hj => by omega⟩ ?_ ?_
    · rintro i σ H' hi ⟨⟨v1, rfl⟩, sm, hall⟩
      obtain ⟨x, hx⟩ : ∃ x, T[i]? = some x := ⟨T[i]'(by omega), List.getElem?_eq_getElem (by omega)⟩
      obtain ⟨y, hy⟩ : ∃ y, T[i + 1]? = some y := ⟨T[i + 1]'(by omega), List.getElem?_eq_getElem (by omega)⟩
      obtain ⟨b, hb⟩ := get_ex h2.symm hx
      obtain ⟨c, hc⟩ := get_ex h2.symm hy
      have hxl := hR x (List.mem_of_getElem? hx)
      have hyl := hR y (List.mem_of_getElem? hy)
      have ab : atI (as.map V.ref) ((1 : Int) + (i : Int) - 1) = some (V.ref b) := by
        rw [show (1 : Int) + (i : Int) - 1 = ((i : Nat) : Int) by omega]
        exact atI_nat (by rw [List.getElem?_map, hb]; rfl)
      have ac : atI (as.map V.ref) ((1 : Int) + (i : Int)) = some (V.ref c) := by
        rw [show (1 : Int) + (i : Int) = ((i + 1 : Nat) : Int) by omega]
        exact atI_nat (by rw [List.getElem?_map, hc]; rfl)
      refine ⟨_, rfl, _, rfl, _, _, rfl, rfl, a, _, _, _, rfl, rfl, sm.seq h1, ab, b, x, rfl, sm.seq (h3 i b x hb hx), by omega, fun H1 o1 sm1 e1 => ?_⟩
      have sH1 := sm.trans sm1
      refine ⟨_, rfl, _, rfl, a, _, _, _, rfl, rfl, sH1.seq h1, ac, c, y, rfl, sH1.seq (h3 (i + 1) c y hc hy), by omega, fun H2 o2 sm2 e2 => ?_⟩
      refine ⟨o1, o2, _, _, rfl, rfl, SqL.of (sm2 _ _ e1), SqL.of e2, _, rfl, ?_⟩
      have sH2 := sH1.trans sm2
      rw [rowLt_before (by rw [List.length_tail, List.length_tail]; omega)]
      cases hbf : Kzt1.before x.tail y.tail with
      | true =>
        refine ⟨⟨some (.int (1 + (i : Int))), rfl⟩, sH2, fun j x' y' hj hx' hy' => ?_⟩
        rcases Nat.lt_or_ge j i with h | h
        · exact hall j x' y' h hx' hy'
        · have ej : j = i := by omega
          subst ej
          rw [← Option.some.inj (hx.symm.trans hx'), ← Option.some.inj (hy.symm.trans hy')]
          exact hbf
      | false =>
        have ec : chain T = false := by
          cases z : chain T with
          | false => rfl
          | true =>
            rw [(chain_iff T).mp z i x y hx hy] at hbf
            cases hbf
        rw [ec] at q
        exact q H2 sH2
    · rintro σ H' ⟨⟨v1, rfl⟩, sm, hall⟩
      have ec : chain T = true := (chain_iff T).mpr fun i x y hx hy => hall i x y (by
        have := (List.getElem?_eq_some_iff.mp hy).1
        omega) hx hy
      rw [ec] at q
      exact q H' sm
/-! ### is_polynomial -/
theorem scIp : FnScope ["p", "n", "f", "terms", "term"] ["p", "n", "f"] (defScope sIp) := ⟨rfl, rfl, rfl, by decide +kernel, rfl, by decide +kernel, by decide +kernel⟩
def spIp (K : PySem.W.Frag) : Sp := fun vs H Q _ => ∃ (p n : Nat) (a : Addr) (l : List Nat), vs = [.int (p : Int), .int (n : Int), .ref a] ∧ SqL K H a (vn l) ∧ l.length ≤ 400 ∧ ∀ H' : Hp, Same H H' → Q (.bl (isP p n l)) H'
/-- the facts of the defs that is_polynomial calls -/
structure Low (K : PySem.W.Frag) (mg : Str → Option Value) (fIs fIt fIo fTp fCt aP : Addr) (dIs dIt dIo dTp dCt : FuncData) (tU tO : Tok) : Prop where
  FIs : Fun K "is_space" "is_space" sIs fIs dIs
  FIt : Fun K "is_term" "is_term" sIt fIt dIt
  FIo : Fun K "is_in_order" "is_in_order" sIo fIo dIo
  FTp : Fun K "term_place" "term_place" sTp fTp dTp
  FCt : Fun K "cut_terms" "cut_terms" sCt fCt dCt
  bIs : Binds K dIs ["p", "n"] []
  bIt : Binds K dIt ["p", "term"] []
  bIo : Binds K dIo ["terms"] []
  bTp : Binds K dTp ["term"] []
  bCt : Binds K dCt ["n", "f"] []
  gIs : mg "is_space" = some (.ref fIs)
  gIt : mg "is_term" = some (.ref fIt)
  gIo : mg "is_in_order" = some (.ref fIo)
  gTp : mg "term_place" = some (.ref fTp)
  gCt : mg "cut_terms" = some (.ref fCt)
  gP : mg "PRIMES" = some (.ref aP)
  hP : ∀ H : Hp, SqT K H aP [.int 2, .int 3, .int 5, .int 7]
  gU : mg "MOST_UNKNOWNS" = some (.int 3 tU)
  gO : mg "MOST_OFTEN" = some (.int 12 tO)
  mr : mg "range" = none
  ml : mg "len" = none
  ms : mg "sum" = none
  mm : mg "max" = none
theorem rows_of {n : Nat} {l : List Nat} (h : l.length % (n + 1) = 0) : ∃ T : List (List Nat), T.flatten = l ∧ Rows n T := by
  obtain ⟨T, e1, e2, _⟩ := rows_ex (n := n) (l.length / (n + 1)) l (by
    have := Nat.div_add_mod l.length (n + 1)
    rw [h, Nat.add_zero, Nat.mul_comm] at this
    exact this.symm)
  exact ⟨T, e1, e2⟩
theorem ok_ip {f fIs fIt fIo fTp fCt aP : Addr} {fd dIs dIt dIo dTp dCt : FuncData} {tU tO : Tok} {k : Nat} (F : Fun K "is_polynomial" "is_polynomial" sIp f fd) (L : Low K mg fIs fIt fIo fTp fCt aP dIs dIt dIo dTp dCt tU tO) :
    FnOk P w K mg base CX0 (k + 1 + 1 + 1) f fd ["p", "n", "f"] (spIp K) := by
  have GIs : FnOk P w K mg base CX0 (k + 1 + 1) fIs dIs ["p", "n"] spIs := ok_is L.FIs L.gP L.hP L.gU
  have GIt : FnOk P w K mg base CX0 (k + 1 + 1) fIt dIt ["p", "term"] (spIt K) := ok_it L.FIt L.mm L.gO
  have GIo : FnOk P w K mg base CX0 (k + 1 + 1) fIo dIo ["terms"] (spIo K) := ok_io L.FIo L.FTp L.bTp L.gTp L.mr L.ml L.ms
  have GCt : FnOk P w K mg base CX0 (k + 1 + 1) fCt dCt ["n", "f"] (spCt K) := ok_ct L.FCt L.mr L.ml
  refine F.ok scIp (fun vs H Q E h => ?_) (fun cdv A outer s H vs Q E hr h => ?_)
  · obtain ⟨p, n, a, l, rfl, _⟩ := h
    rfl
  · obtain ⟨p, n, a, l, rfl, hF, hlen, q⟩ := h
    refine ⟨_, pss_cons (ps_if (PW.pt (pw_or (pt_not (pt_val (pe_call GIs hr (by rfl) L.gIs L.FIs.kp L.bIs .nil pass0 (pa_cons (pv 0) (pa_cons (pv 1) pa_nil)))))
          (pw_or1 (pt_cmpR op_ne (pe_op op_mod (pe_callB call_len_seq (by rfl) L.ml PySem.boot_len (pa_cons (pv 2) pa_nil)) (pe_op op_add (pv 1) pe_int)) pe_int (nomark _)))))
        (pss_one (ps_ret pe_bl)) pss_nil)
      (pss_cons (ps_set (i := 3) scIp.nd rfl (.inl rfl) (pe_call GCt hr (by rfl) L.gCt L.FCt.kp L.bCt .nil pass0 (pa_cons (pv 1) (pa_cons (pv 2) pa_nil))))
      (pss_cons (ps_for PassesOwn.never rfl (pi_list (pv 3)) (pg_name (i := 4) scIp.nd rfl (.inl rfl))
        (pss_one (ps_if (pt_not (pt_val (pe_call GIt hr (by rfl) L.gIt L.FIt.kp L.bIt .nil pass0 (pa_cons (pv 0) (pa_cons (pv 4) pa_nil))))) (pss_one (ps_ret pe_bl)) pss_nil)))
      (pss_one (ps_ret (pe_call GIo hr (by rfl) L.gIo L.FIo.kp L.bIo .nil pass0 (pa_cons (pv 3) pa_nil)))))), ?_⟩
    refine ⟨_, rfl, _, rfl, p, n, rfl, _, rfl, ?_⟩
    cases ok : Kzt1.okField p n with
    | false =>
      rw [isP_field ok] at q
      exact q H (Same.refl H)
    | true =>
      obtain ⟨hn1, hn3⟩ := okField_n ok
      refine ⟨_, rfl, a, _, rfl, .inl hF, _, rfl, _, _, rfl, rfl, _, _, rfl, rfl, (by show (0 : Int) < (n : Int) + 1; omega), rfl, _, rfl, ?_⟩
      rw [vn_len]
      have em : ((l.length : Int) % ((n : Int) + 1)) = ((l.length % (n + 1) : Nat) : Int) := by
        rw [Int.natCast_emod, Int.natCast_add]
        rfl
      show (if (!decide (V.int ((l.length : Int) % ((n : Int) + 1)) = V.int 0)) = true then _ else _)
      rw [em]
      by_cases c : l.length % (n + 1) = 0
      · rw [c]
        refine iteNS rfl ?_
        obtain ⟨T, rfl, hR⟩ := rows_of c
        have hfl := flat_len hR
        have hTl : T.length ≤ 400 := Nat.le_trans (Nat.le_mul_of_pos_right _ (by omega)) (hfl ▸ hlen)
        refine ⟨_, rfl, _, rfl, n, a, T, rfl, hF, hR, hn3, hlen, fun H1 o s1 hTt => ?_⟩
        have hT : TAt K H1 o T := hTt.at_
        rw [isP_rows ok hR] at q
        obtain ⟨as, h1, h2, h3⟩ := id hT
        refine ⟨_, rfl, o, rfl, ⟨_, h1⟩, for_list (K := K) (a := o) (xs := as.map V.ref) (fun i σ H' => (∃ v4, σ = [some (.int (p : Int)), some (.int (n : Int)), some (.ref a), some (.ref o), v4]) ∧ Same H1 H' ∧ ∀ (j : Nat) (t : List Nat), j < i → T[j]? = some t → isT p t = true) ⟨⟨none, rfl⟩, Same.refl H1, fun j t hj => by omega⟩ (fun i σ H' _ ⟨_, sm, _⟩ => sm.seq h1) ?_ ?_⟩
        · rintro i y σ H' hi ⟨⟨v4, rfl⟩, sm, hall⟩
          obtain ⟨b, hb, rfl⟩ := map_get hi
          obtain ⟨t, ht⟩ := get_ex h2 hb
          have htl := hR t (List.mem_of_getElem? ht)
          refine ⟨_, rfl, _, rfl, p, b, t, rfl, sm.seq (h3 i b t hb ht), by omega, fun H2 sm2 => ⟨_, rfl, ?_⟩⟩
          cases hv : isT p t with
          | true =>
            refine ⟨⟨some (.ref b), rfl⟩, sm.trans sm2, fun j t' hj ht' => ?_⟩
            rcases Nat.lt_or_ge j i with h | h
            · exact hall j t' h ht'
            · have ej : j = i := by omega
              subst ej
              rw [← Option.some.inj (ht.symm.trans ht')]
              exact hv
          | false =>
            have ea : okRow p T = false := by
              rw [okRow]
              have : T.all (isT p) = false := by
                rw [List.all_eq_false]
                exact ⟨t, List.mem_of_getElem? ht, by rw [hv]; exact Bool.false_ne_true⟩
              rw [this, Bool.false_and]
            rw [ea] at q
            exact q H2 (s1.trans (sm.trans sm2))
        · rintro σ H' ⟨⟨v4, rfl⟩, sm, hall⟩
          rw [List.length_map, h2] at hall
          have ea : okRow p T = chain T := by
            have : T.all (isT p) = true := List.all_eq_true.mpr fun t ht => by
              obtain ⟨j, hj⟩ := List.getElem?_of_mem ht
              exact hall j t (List.getElem?_eq_some_iff.mp hj).1 hj
            rw [okRow, this, Bool.true_and]
          rw [ea] at q
          exact ⟨_, rfl, o, T, n, rfl, hT.same sm, hR, hn3, hTl, fun H2 sm2 => q H2 (s1.trans (sm.trans sm2))⟩
      · rw [isP_mod c] at q
        have en : decide (V.int ((l.length % (n + 1) : Nat) : Int) = V.int 0) = false := decide_eq_false fun z => c (by
          have := V.int.inj z
          omega)
        rw [en]
        exact q H (Same.refl H)
end
end Nz
namespace Nz
open PySem PySem.Spec PyProof.Rows L2
abbrev sPn : Stmt := topS 14
abbrev sCp : Stmt := topS 13
section
variable {P : Program} {w : World} {K : PySem.W.Frag} {mg : Str → Option Value} {base : Heap}
/-! ### count_points -/
theorem scCp : FnScope ["p", "n", "count", "k"] ["p", "n"] (defScope sCp) := ⟨rfl, rfl, rfl, by decide +kernel, rfl, by decide +kernel, by decide +kernel⟩
def spCp : Sp := fun vs H Q _ => ∃ (p n : Nat), vs = [.int (p : Int), .int (n : Int)] ∧ p ≤ 7 ∧ n ≤ 3 ∧ Q (.int (p ^ n : Nat)) H
theorem ok_cp {f : Addr} {fd : FuncData} {k : Nat} (F : Fun K "count_points" "count_points" sCp f fd) (mr : mg "range" = none) : FnOk P w K mg base CX0 (k + 1) f fd ["p", "n"] spCp := by
  refine F.ok scCp (fun vs H Q E h => ?_) (fun cdv A outer s H vs Q E hr h => ?_)
  · obtain ⟨p, n, rfl, _⟩ := h
    rfl
  · obtain ⟨p, n, rfl, hp, hn, q⟩ := h
    refine ⟨_, pss_cons (ps_set (i := 2) scCp.nd rfl (.inl rfl) pe_int)
      (pss_cons (ps_for PassesOwn.never rfl (pi_range1 (by rfl) mr (pa_cons (pv 1) pa_nil)) (pg_name (i := 3) scCp.nd rfl (.inl rfl))
        (pss_one (ps_set (i := 2) scCp.nd rfl (.inl rfl) (pe_op op_mul (pv 2) (pv 0)))))
      (pss_one (ps_ret (pv 2)))), ?_⟩
    refine ⟨_, rfl, _, rfl, by omega, by omega, ?_⟩
    refine for_range (lo := 0) (n := n) (fun i σ H' => H' = H ∧ ∃ v3, σ = [some (.int (p : Int)), some (.int (n : Int)), some (.int (p ^ i : Nat)), v3]) ⟨rfl, none, rfl⟩ ?_ ?_
    · rintro i σ H' hi ⟨rfl, v3, rfl⟩
      refine ⟨_, rfl, _, rfl, _, _, rfl, rfl, .inr ⟨by omega, by omega⟩, rfl, some (.int (0 + (i : Int))), ?_⟩
      rw [Nat.pow_succ, Int.natCast_mul]
      rfl
    · rintro σ H' ⟨rfl, v3, rfl⟩
      exact ⟨_, rfl, q⟩
/-! ### point_numbers -/
theorem scPn : FnScope ["p", "n", "x", "numbers", "rest", "k"] ["p", "n", "x"] (defScope sPn) := ⟨rfl, rfl, rfl, by decide +kernel, rfl, by decide +kernel, by decide +kernel⟩
def spPn : Sp := fun vs H Q _ => ∃ (p n x : Nat), vs = [.int (p : Int), .int (n : Int), .int (x : Int)] ∧ 1 < p ∧ p ≤ 7 ∧ n ≤ 3 ∧ ∀ (H' : Hp) (o : Addr), Same H H' → H o = none → H' o = some (.lst (vn (Kzt1.coords p n x))) → Q (.ref o) H'
theorem ok_pn {f : Addr} {fd : FuncData} {k : Nat} (F : Fun K "point_numbers" "point_numbers" sPn f fd) (mr : mg "range" = none) : FnOk P w K mg base CX0 (k + 1) f fd ["p", "n", "x"] spPn := by
  refine F.ok scPn (fun vs H Q E h => ?_) (fun cdv A outer s H vs Q E hr h => ?_)
  · obtain ⟨p, n, x, rfl, _⟩ := h
    rfl
  · obtain ⟨p, n, x, rfl, hp1, hp7, hn, q⟩ := h
    refine ⟨_, pss_cons (ps_set (i := 3) scPn.nd rfl (.inl rfl) (pe_lst pa_nil))
      (pss_cons (ps_set (i := 4) scPn.nd rfl (.inl rfl) (pv 2))
      (pss_cons (ps_for PassesOwn.never rfl (pi_range1 (by rfl) mr (pa_cons (pv 1) pa_nil)) (pg_name (i := 5) scPn.nd rfl (.inl rfl))
        (pss_cons (ps_expr (pe_bm PySem.F.plainAttrs_list PySem.F.slot_list_append PySem.F.type_list_append mt_append (pv 3) (pa_cons (pe_op op_mod (pv 4) (pv 0)) pa_nil)))
        (pss_one (ps_set (i := 4) scPn.nd rfl (.inl rfl) (pe_op op_fdiv (pv 4) (pv 0))))))
      (pss_one (ps_ret (pv 3))))), ?_⟩
    refine ⟨Nat.zero_le _, fun o no => ⟨_, rfl, ?_⟩⟩
    refine ⟨_, rfl, _, rfl, by omega, by omega, ?_⟩
    refine for_range (lo := 0) (n := n) (fun i σ H' => (∃ v5, σ = [some (.int (p : Int)), some (.int (n : Int)), some (.int (x : Int)), some (.ref o), some (.int (x / p ^ i : Nat)), v5]) ∧ Same H H' ∧ H' o = some (.lst (vn (Kzt1.coords p i x)))) ⟨⟨none, ?_⟩, same_upd no, upd_same⟩ ?_ ?_
    · rw [Nat.pow_zero, Nat.div_one]
      rfl
    · rintro i σ H' hi ⟨⟨v5, rfl⟩, sm, ho⟩
      have sz : (vn (Kzt1.coords p i x)).length < sizeLine := by
        rw [vn_len, coords_len]
        exact small1000 (by omega)
      refine ⟨_, rfl, .inl ⟨rfl, _, SqL.of ho⟩, _, rfl, _, rfl, _, _, rfl, rfl, (by show (0 : Int) < p; omega), o, _, _, rfl, rfl, ho, sz, ?_⟩
      refine ⟨_, rfl, _, rfl, _, _, rfl, rfl, ⟨by omega, by omega⟩, ⟨some (.int (0 + (i : Int))), ?_⟩, fun b z e => ?_, ?_⟩
      · rw [Nat.pow_succ, ← Nat.div_div_eq_div_mul, Int.natCast_ediv (x / p ^ i) p]
        rfl
      · rw [upd_ne (ne_of_none e no)]
        exact sm b z e
      · rw [upd_same, coords_snoc, vn_app]
        show _ = some (HO.lst (vn (Kzt1.coords p i x) ++ [V.int ((x / p ^ i % p : Nat) : Int)]))
        rw [Int.natCast_emod]
    · rintro σ H' ⟨⟨v5, rfl⟩, sm, ho⟩
      exact ⟨_, rfl, q H' o sm no ho⟩
end
end Nz
namespace Nz
open PySem PySem.Spec PyProof.Rows L2
abbrev sTv : Stmt := topS 16
section
variable {P : Program} {w : World} {K : PySem.W.Frag} {mg : Str → Option Value} {base : Heap}
/-! ### term_value -/
theorem scTv : FnScope ["p", "term", "point", "product", "k", "turn"] ["p", "term", "point"] (defScope sTv) := ⟨rfl, rfl, rfl, by decide +kernel, rfl, by decide +kernel, by decide +kernel⟩
def spTv (K : PySem.W.Frag) : Sp := fun vs H Q _ => ∃ (p : Nat) (a b : Addr) (t x : List Nat), vs = [.int (p : Int), .ref a, .ref b] ∧ SqL K H a (vn t) ∧ SqL K H b (vn x) ∧ t.length = x.length + 1 ∧ x.length ≤ 3 ∧ 1 < p ∧ p ≤ 7 ∧ (∀ y ∈ x, y < p) ∧ (∀ y ∈ t, y ≤ 12) ∧ Q (.int (tv p t x : Nat)) H
theorem zip_get {l r : List Nat} {i u v : Nat} (h1 : l[i]? = some u) (h2 : r[i]? = some v) : (l.zip r)[i]? = some (u, v) := by
  rw [List.getElem?_zip_eq_some]
  exact ⟨h1, h2⟩
theorem tvE_more {p c : Nat} {l : List (Nat × Nat)} {i : Nat} {u v : Nat} (h : l[i]? = some (u, v)) : tvE p (l.take (i + 1)) c = timesN p v u (tvE p (l.take i) c) := by
  rw [take_more h, tvE_app]
  rfl
theorem ok_tv {f : Addr} {fd : FuncData} {k : Nat} (F : Fun K "term_value" "term_value" sTv f fd) (mr : mg "range" = none) (ml : mg "len" = none) : FnOk P w K mg base CX0 (k + 1) f fd ["p", "term", "point"] (spTv K) := by
  refine F.ok scTv (fun vs H Q E h => ?_) (fun cdv A outer s H vs Q E hr h => ?_)
  · obtain ⟨p, a, b, t, x, rfl, _⟩ := h
    rfl
  · obtain ⟨p, a, b, t, x, rfl, hT, hX, hlen, hx3, hp1, hp7, hxp, ht, q⟩ := h
    refine ⟨_, pss_cons (ps_set (i := 3) scTv.nd rfl (.inl rfl) (pe_ix ix_list (pv 1) pe_int (fun _ _ => rfl)))
      (pss_cons (ps_for PassesOwn.never rfl (pi_range1 (by rfl) mr (pa_cons (pe_callB call_len_seq (by rfl) ml PySem.boot_len (pa_cons (pv 2) pa_nil)) pa_nil)) (pg_name (i := 4) scTv.nd rfl (.inl rfl))
        (pss_one (ps_for PassesOwn.never rfl (pi_range1 (by rfl) mr (pa_cons (pe_ix ix_list (pv 1) (pe_op op_add (pv 4) pe_int) (fun _ _ => rfl)) pa_nil)) (pg_name (i := 5) scTv.nd rfl (.inl rfl))
          (pss_one (ps_set (i := 3) scTv.nd rfl (.inl rfl) (pe_op op_mod (pe_op op_mul (pv 3) (pe_ix ix_list (pv 2) (pv 4) (fun _ _ => rfl))) (pv 0)))))))
      (pss_one (ps_ret (pv 3)))), ?_⟩
    obtain ⟨c, e, rfl⟩ : ∃ c e, t = c :: e := by
      cases t with
      | nil => simp at hlen
      | cons c e => exact ⟨c, e, rfl⟩
    have he : e.length = x.length := by simpa using hlen
    -- product = term[0]
    refine ⟨_, rfl, a, _, 0, .int (c : Int), rfl, rfl, hT, atI_nat (j := 0) rfl, ?_⟩
    -- for k in range(len(point))
    refine ⟨_, rfl, b, _, rfl, .inl hX, _, rfl, by rw [vn_len]; omega, by rw [vn_len]; omega, ?_⟩
    rw [vn_len]
    refine for_range (lo := 0) (n := x.length) (fun i σ H' => H' = H ∧ ∃ v4 v5, σ = [some (.int (p : Int)), some (.ref a), some (.ref b), some (.int (tvE p ((e.zip x).take i) c : Nat)), v4, v5]) ⟨rfl, none, none, rfl⟩ ?_ ?_
    · rintro i σ H' hi ⟨rfl, v4, v5, rfl⟩
      obtain ⟨y, hy⟩ : ∃ y, x[i]? = some y := ⟨x[i], List.getElem?_eq_getElem hi⟩
      obtain ⟨u, hu⟩ : ∃ u, e[i]? = some u := ⟨e[i]'(by omega), List.getElem?_eq_getElem (by omega)⟩
      have hym : y < p := hxp y (List.mem_of_getElem? hy)
      have hum : u ≤ 12 := ht u (List.mem_cons_of_mem _ (List.mem_of_getElem? hu))
      have hz : (e.zip x)[i]? = some (u, y) := zip_get hu hy
      have e1 : (0 : Int) + (i : Int) + 1 = ((i + 1 : Nat) : Int) := by omega
      refine ⟨_, rfl, _, rfl, _, _, rfl, rfl, a, _, _, .int (u : Int), rfl, rfl, hT, (by rw [e1]; exact atI_nat (vn_get (l := c :: e) (i := i + 1) hu)), _, rfl, by omega, by omega, ?_⟩
      refine for_range (lo := 0) (n := u) (fun j σ H2 => H2 = H' ∧ ∃ v5, σ = [some (.int (p : Int)), some (.ref a), some (.ref b), some (.int (timesN p y j (tvE p ((e.zip x).take i) c) : Nat)), some (.int (0 + (i : Int))), v5]) ⟨rfl, _, rfl⟩ ?_ ?_
      · rintro j σ H2 hj ⟨rfl, v5, rfl⟩
        have e2 : (0 : Int) + (i : Int) = ((i : Nat) : Int) := by omega
        refine ⟨_, rfl, _, rfl, _, rfl, b, _, _, .int (y : Int), rfl, rfl, hX, (by rw [e2]; exact atI_nat (vn_get hy)), _, _, rfl, rfl, .inr ⟨by omega, by omega⟩, _, rfl, _, _, rfl, rfl, by omega, rfl, some (.int (0 + (j : Int))), ?_⟩
        show _ = [some (V.int (p : Int)), some (V.ref a), some (V.ref b), some (V.int (timesN p y j (tvE p ((e.zip x).take i) c) * y % p : Nat)), some (V.int (0 + (i : Int))), some (V.int (0 + (j : Int)))]
        rw [Int.natCast_emod, Int.natCast_mul]
        rfl
      · rintro σ H2 ⟨rfl, v5, rfl⟩
        exact ⟨rfl, _, _, by rw [tvE_more hz]⟩
    · rintro σ H' ⟨rfl, v4, v5, rfl⟩
      refine ⟨_, rfl, ?_⟩
      rw [List.take_of_length_le (by rw [List.length_zip]; omega)]
      exact q
end
end Nz
namespace Nz
open PySem PySem.Spec PyProof.Rows L2
abbrev sRv : Stmt := topS 15
section
variable {P : Program} {w : World} {K : PySem.W.Frag} {mg : Str → Option Value} {base : Heap}
/-! ### row_value -/
theorem scRv : FnScope ["p", "terms", "point", "total", "term"] ["p", "terms", "point"] (defScope sRv) := ⟨rfl, rfl, rfl, by decide +kernel, rfl, by decide +kernel, by decide +kernel⟩
def spRv (K : PySem.W.Frag) : Sp := fun vs H Q _ => ∃ (p : Nat) (a b : Addr) (T : List (List Nat)) (x : List Nat), vs = [.int (p : Int), .ref a, .ref b] ∧ TAt K H a T ∧ SqL K H b (vn x) ∧ Rows x.length T ∧ x.length ≤ 3 ∧ 1 < p ∧ p ≤ 7 ∧ (∀ y ∈ x, y < p) ∧ (∀ t ∈ T, ∀ y ∈ t, y ≤ 12) ∧ Q (.int (rv p x T : Nat)) H
theorem ok_rv {f fT : Addr} {fd fdT : FuncData} {k : Nat} (F : Fun K "row_value" "row_value" sRv f fd) (FT : Fun K "term_value" "term_value" sTv fT fdT) (bT : Binds K fdT ["p", "term", "point"] []) (gT : mg "term_value" = some (.ref fT)) (mr : mg "range" = none) (ml : mg "len" = none) :
    FnOk P w K mg base CX0 (k + 1 + 1) f fd ["p", "terms", "point"] (spRv K) := by
  have GT : FnOk P w K mg base CX0 (k + 1) fT fdT ["p", "term", "point"] (spTv K) := ok_tv FT mr ml
  refine F.ok scRv (fun vs H Q E h => ?_) (fun cdv A outer s H vs Q E hr h => ?_)
  · obtain ⟨p, a, b, T, x, rfl, _⟩ := h
    rfl
  · obtain ⟨p, a, b, T, x, rfl, hT, hX, hR, hx3, hp1, hp7, hxp, ht, q⟩ := h
    refine ⟨_, pss_cons (ps_set (i := 3) scRv.nd rfl (.inl rfl) pe_int)
      (pss_cons (ps_for PassesOwn.never rfl (pi_list (pv 1)) (pg_name (i := 4) scRv.nd rfl (.inl rfl))
        (pss_one (ps_set (i := 3) scRv.nd rfl (.inl rfl) (pe_op op_mod (pe_op op_add (pv 3) (pe_call GT hr (by rfl) gT FT.kp bT .nil pass0 (pa_cons (pv 0) (pa_cons (pv 4) (pa_cons (pv 2) pa_nil))))) (pv 0)))))
      (pss_one (ps_ret (pv 3)))), ?_⟩
    obtain ⟨as, h1, h2, h3⟩ := hT
    refine ⟨_, rfl, a, rfl, ⟨_, h1⟩, for_list (K := K) (a := a) (xs := as.map V.ref) (fun i σ H' => H' = H ∧ ∃ v4, σ = [some (.int (p : Int)), some (.ref a), some (.ref b), some (.int (rv p x (T.take i) : Nat)), v4]) ⟨rfl, none, rfl⟩ (fun i σ H' _ ⟨e, _⟩ => by rw [e]; exact h1) ?_ ?_⟩
    · rintro i y σ H' hi ⟨rfl, v4, rfl⟩
      obtain ⟨c, hc, rfl⟩ := map_get hi
      obtain ⟨t, hti⟩ := get_ex h2 hc
      have htm := List.mem_of_getElem? hti
      refine ⟨_, rfl, _, rfl, _, rfl, _, rfl, p, c, b, t, x, rfl, h3 i c t hc hti, hX, hR t htm, hx3, hp1, hp7, hxp, ht t htm, _, _, rfl, rfl, _, rfl, _, _, rfl, rfl, (by show (0 : Int) < p; omega), rfl, some (.ref c), ?_⟩
      rw [take_more hti, rv_snoc, Int.natCast_emod, Int.natCast_add]
      rfl
    · rintro σ H' ⟨rfl, v4, rfl⟩
      rw [List.length_map, h2, List.take_length]
      exact ⟨_, rfl, q⟩
end
end Nz
namespace Nz
open PySem PySem.Spec PyProof.Rows L2
abbrev sVa : Stmt := topS 6
section
variable {P : Program} {w : World} {K : PySem.W.Frag} {mg : Str → Option Value} {base : Heap}
/-! ### what is due of value -/
theorem due_value (p n x : Nat) (l : List Nat) : PyKzt1.value p n x (natI l) = (Kzt1.answer (.value p n x l)).value :: (Kzt1.answer (.value p n x l)).nums := by
  show (Kzt1.answer (.value (p : Int).toNat (n : Int).toNat (x : Int).toNat (Kzt1Neutral.natsOf (natI l)))).value :: (Kzt1.answer (.value (p : Int).toNat (n : Int).toNat (x : Int).toNat (Kzt1Neutral.natsOf (natI l)))).nums = _
  rw [nats_natI, Int.toNat_natCast, Int.toNat_natCast, Int.toNat_natCast]
theorem due_value_no {p n x : Nat} {l : List Nat} (h : isP p n l = false) : PyKzt1.value p n x (natI l) = [-22] := by
  rw [due_value, show Kzt1.answer (.value p n x l) = Kzt1.say (-22) from due_refused h _]
  rfl
theorem due_value_out {p n x : Nat} {T : List (List Nat)} (ok : Kzt1.okField p n = true) (hr : Kzt1.readPoly p n T.flatten = some (T.map tm)) (hx : p ^ n ≤ x) : PyKzt1.value p n x (natI T.flatten) = [-2] := by
  rw [due_value, show Kzt1.answer (.value p n x T.flatten) = _ from due_taken ok hr _, if_pos hx]
  rfl
theorem due_value_yes {p n x : Nat} {T : List (List Nat)} (ok : Kzt1.okField p n = true) (hT : okRow p T = true) (hr : Kzt1.readPoly p n T.flatten = some (T.map tm)) (hx : ¬ p ^ n ≤ x) :
    PyKzt1.value p n x (natI T.flatten) = [((rv p (Kzt1.coords p n x) T : Nat) : Int)] := by
  have hf : Facs p (T.map tm) := okRow_facs (by
    rw [okRow, Bool.and_eq_true] at hT
    exact hT.1)
  rw [due_value, show Kzt1.answer (.value p n x T.flatten) = _ from due_taken ok hr _, if_neg hx, rv_is (okField_p ok).1 hf]
  rfl
theorem okRow_small {p : Nat} {T : List (List Nat)} (hp : p ≤ 7) (h : okRow p T = true) : ∀ t ∈ T, ∀ y ∈ t, y ≤ 12 := fun t ht y hy => by
  rw [okRow, Bool.and_eq_true] at h
  have q := List.all_eq_true.mp h.1 t ht
  simp only [isT, Bool.and_eq_true, decide_eq_true_eq, List.all_eq_true] at q
  cases t with
  | nil => cases hy
  | cons c e =>
    rcases List.mem_cons.mp hy with rfl | hy
    · have : y < p := q.1.2
      omega
    · exact q.2 y hy
theorem coords_small {p n x : Nat} (hp : 0 < p) : ∀ y ∈ Kzt1.coords p n x, y < p := fun y hy => by
  obtain ⟨i, _, rfl⟩ := List.mem_map.mp hy
  exact Nat.mod_lt _ hp
/-! ### value -/
theorem scVa : FnScope ["p", "n", "x", "f"] ["p", "n", "x", "f"] (defScope sVa) := ⟨rfl, rfl, rfl, by decide +kernel, rfl, by decide +kernel, by decide +kernel⟩
def spVa (K : PySem.W.Frag) : Sp := fun vs H Q _ => ∃ (p n x : Nat) (a : Addr) (l : List Nat), vs = [.int (p : Int), .int (n : Int), .int (x : Int), .ref a] ∧ SqL K H a (vn l) ∧ l.length ≤ 400 ∧ ∀ (H' : Hp) (o : Addr), H' o = some (.lst ((PyKzt1.value p n x (natI l)).map V.int)) → Q (.ref o) H'
/-- the facts of the defs that it calls besides -/
structure Val (K : PySem.W.Frag) (mg : Str → Option Value) (fIp fCp fPn fRv fTv : Addr) (dIp dCp dPn dRv dTv : FuncData) (tN tS : Tok) : Prop where
  FIp : Fun K "is_polynomial" "is_polynomial" sIp fIp dIp
  FCp : Fun K "count_points" "count_points" sCp fCp dCp
  FPn : Fun K "point_numbers" "point_numbers" sPn fPn dPn
  FRv : Fun K "row_value" "row_value" sRv fRv dRv
  FTv : Fun K "term_value" "term_value" sTv fTv dTv
  bIp : Binds K dIp ["p", "n", "f"] []
  bCp : Binds K dCp ["p", "n"] []
  bPn : Binds K dPn ["p", "n", "x"] []
  bRv : Binds K dRv ["p", "terms", "point"] []
  bTv : Binds K dTv ["p", "term", "point"] []
  gIp : mg "is_polynomial" = some (.ref fIp)
  gCp : mg "count_points" = some (.ref fCp)
  gPn : mg "point_numbers" = some (.ref fPn)
  gRv : mg "row_value" = some (.ref fRv)
  gTv : mg "term_value" = some (.ref fTv)
  gN : mg "NOT_AS_TOLD" = some (.int (-22) tN)
  gS : mg "NO_SUCH_POINT" = some (.int (-2) tS)
theorem pow_small {p n : Nat} (hp : p ≤ 7) (hn : n ≤ 3) : p ^ n ≤ 343 := by
  have h1 : p ^ n ≤ 7 ^ n := Nat.pow_le_pow_left hp n
  have h2 : 7 ^ n ≤ 7 ^ 3 := Nat.pow_le_pow_right (by decide) hn
  exact Nat.le_trans h1 h2
theorem ok_va {f fIs fIt fIo fTp fCt aP fIp fCp fPn fRv fTv : Addr} {fd dIs dIt dIo dTp dCt dIp dCp dPn dRv dTv : FuncData} {tU tO tN tS : Tok} (F : Fun K "value" "value" sVa f fd) (L : Low K mg fIs fIt fIo fTp fCt aP dIs dIt dIo dTp dCt tU tO) (W : Val K mg fIp fCp fPn fRv fTv dIp dCp dPn dRv dTv tN tS) :
    FnOk P w K mg base CX0 4 f fd ["p", "n", "x", "f"] (spVa K) := by
  have GIp : FnOk P w K mg base CX0 3 fIp dIp ["p", "n", "f"] (spIp K) := ok_ip W.FIp L
  have GCt : FnOk P w K mg base CX0 3 fCt dCt ["n", "f"] (spCt K) := ok_ct L.FCt L.mr L.ml
  have GCp : FnOk P w K mg base CX0 3 fCp dCp ["p", "n"] spCp := ok_cp W.FCp L.mr
  have GPn : FnOk P w K mg base CX0 3 fPn dPn ["p", "n", "x"] spPn := ok_pn W.FPn L.mr
  have GRv : FnOk P w K mg base CX0 3 fRv dRv ["p", "terms", "point"] (spRv K) := ok_rv W.FRv W.FTv W.bTv W.gTv L.mr L.ml
  refine F.ok scVa (fun vs H Q E h => ?_) (fun cdv A outer s H vs Q E hr h => ?_)
  · obtain ⟨p, n, x, a, l, rfl, _⟩ := h
    rfl
  · obtain ⟨p, n, x, a, l, rfl, hF, hlen, q⟩ := h
    refine ⟨_, pss_cons (ps_if (pt_not (pt_val (pe_call GIp hr (by rfl) W.gIp W.FIp.kp W.bIp .nil pass0 (pa_cons (pv 0) (pa_cons (pv 1) (pa_cons (pv 3) pa_nil)))))) (pss_one (ps_ret (pe_lst (pa_cons (pe_glob (v := .int (-22)) rfl W.gN ⟨_, rfl⟩) pa_nil)))) pss_nil)
      (pss_cons (ps_if (pt_cmpR op_ge (pv 2) (pe_call GCp hr (by rfl) W.gCp W.FCp.kp W.bCp .nil pass0 (pa_cons (pv 0) (pa_cons (pv 1) pa_nil))) (nomark _)) (pss_one (ps_ret (pe_lst (pa_cons (pe_glob (v := .int (-2)) rfl W.gS ⟨_, rfl⟩) pa_nil)))) pss_nil)
      (pss_one (ps_ret (pe_lst (pa_cons (pe_call GRv hr (by rfl) W.gRv W.FRv.kp W.bRv .nil pass0 (pa_cons (pv 0) (pa_cons (pe_call GCt hr (by rfl) L.gCt L.FCt.kp L.bCt .nil pass0 (pa_cons (pv 1) (pa_cons (pv 3) pa_nil)))
        (pa_cons (pe_call GPn hr (by rfl) W.gPn W.FPn.kp W.bPn .nil pass0 (pa_cons (pv 0) (pa_cons (pv 1) (pa_cons (pv 2) pa_nil)))) pa_nil)))) pa_nil))))), ?_⟩
    refine ⟨_, rfl, _, rfl, _, rfl, p, n, a, l, rfl, hF, hlen, fun H1 s1 => ⟨_, rfl, ?_⟩⟩
    cases hP : isP p n l with
    | false =>
      rw [due_value_no hP] at q
      refine ⟨(by show 1 ≤ sizeLine; decide), fun o no => ?_⟩
      exact q _ o upd_same
    | true =>
      obtain ⟨ok, T, rfl, hR, hT, hrd⟩ := isP_ex hP
      obtain ⟨hp1, hp7⟩ := okField_p ok
      obtain ⟨hn1, hn3⟩ := okField_n ok
      refine ⟨_, rfl, _, rfl, _, rfl, p, n, rfl, hp7, hn3, _, _, rfl, rfl, _, rfl, ?_⟩
      by_cases c : p ^ n ≤ x
      · rw [due_value_out ok hrd c] at q
        rw [decide_eq_true (show ((p ^ n : Nat) : Int) ≤ (x : Int) from Int.ofNat_le.mpr c)]
        refine iteT ⟨(by show 1 ≤ sizeLine; decide), fun o no => ?_⟩
        exact q _ o upd_same
      · rw [due_value_yes ok hT hrd c] at q
        rw [decide_eq_false (show ¬ ((p ^ n : Nat) : Int) ≤ (x : Int) from fun z => c (Int.ofNat_le.mp z))]
        refine iteF ⟨_, rfl, _, rfl, _, rfl, n, a, T, rfl, s1.seq hF, hR, hn3, hlen, fun H2 b s2 hTA => ?_⟩
        refine ⟨_, rfl, _, rfl, _, rfl, p, n, x, rfl, hp1, hp7, hn3, fun H3 d sm3 nd hd => ?_⟩
        have hcl := coords_len p n x
        refine ⟨p, b, d, T, Kzt1.coords p n x, rfl, (hTA.at_ (K := K)).same sm3, SqL.of hd, by rw [hcl]; exact hR, by omega, hp1, hp7, coords_small (by omega), okRow_small hp7 hT, ?_⟩
        refine ⟨(by show 1 ≤ sizeLine; decide), fun o no => ?_⟩
        exact q _ o upd_same
end
end Nz
namespace Nz
open PySem PySem.Spec PyProof.Rows L2
/-! ### what the top has written -/
theorem all_mk {P : Program} {w : World} {K : PySem.W.Frag} {h : Heap} {mg : Str → Option Value} {fa aP fVa fIp fIs fIt fIo fTp fCt fCp fPn fRv fTv : Addr} (X : K.In h) (G : h.Ns mainGlobals mg) (hfa : mg "value" = some (.ref fa))
    {odP odVa anVa odIp anIp odIs anIs odIt anIt odIo anIo odTp anTp odCt anCt odCp anCp odPn anPn odRv anRv odTv anTv : Option Addr} {slP slVa slIp slIs slIt slIo slTp slCt slCp slPn slRv slTv : Array (Option Value)} {ocVa kVVa dcVa pmVa cdVa ctVa ocIp kVIp dcIp pmIp cdIp ctIp ocIs kVIs dcIs pmIs cdIs ctIs ocIt kVIt dcIt pmIt cdIt ctIt ocIo kVIo dcIo pmIo cdIo ctIo ocTp kVTp dcTp pmTp cdTp ctTp ocCt kVCt dcCt pmCt cdCt ctCt ocCp kVCp dcCp pmCp cdCp ctCp ocPn kVPn dcPn pmPn cdPn ctPn ocRv kVRv dcRv pmRv cdRv ctRv ocTv kVTv dcTv pmTv cdTv ctTv : Value} {nP : Nat} {tU tO tN tS tP1 tP2 tP3 tP4 : Tok}
    (aVa : PySem.W.nsIn K mainGlobals "value" = some (some (.ref fVa))) (lVa : K.lookup fVa = some ⟨ocVa, odVa, .func (PySem.W.fnOf "value" "value" (defArgs sVa) (defBody sVa) (defScope sVa) .none kVVa dcVa pmVa anVa cdVa ctVa), slVa⟩) (cVa : PySem.W.codeIn K cdVa "value" = true) (kVa : PySem.W.keepIn K (.ref fVa) = true)
    (aIp : PySem.W.nsIn K mainGlobals "is_polynomial" = some (some (.ref fIp))) (lIp : K.lookup fIp = some ⟨ocIp, odIp, .func (PySem.W.fnOf "is_polynomial" "is_polynomial" (defArgs sIp) (defBody sIp) (defScope sIp) .none kVIp dcIp pmIp anIp cdIp ctIp), slIp⟩) (cIp : PySem.W.codeIn K cdIp "is_polynomial" = true) (kIp : PySem.W.keepIn K (.ref fIp) = true)
    (aIs : PySem.W.nsIn K mainGlobals "is_space" = some (some (.ref fIs))) (lIs : K.lookup fIs = some ⟨ocIs, odIs, .func (PySem.W.fnOf "is_space" "is_space" (defArgs sIs) (defBody sIs) (defScope sIs) .none kVIs dcIs pmIs anIs cdIs ctIs), slIs⟩) (cIs : PySem.W.codeIn K cdIs "is_space" = true) (kIs : PySem.W.keepIn K (.ref fIs) = true)
    (aIt : PySem.W.nsIn K mainGlobals "is_term" = some (some (.ref fIt))) (lIt : K.lookup fIt = some ⟨ocIt, odIt, .func (PySem.W.fnOf "is_term" "is_term" (defArgs sIt) (defBody sIt) (defScope sIt) .none kVIt dcIt pmIt anIt cdIt ctIt), slIt⟩) (cIt : PySem.W.codeIn K cdIt "is_term" = true) (kIt : PySem.W.keepIn K (.ref fIt) = true)
    (aIo : PySem.W.nsIn K mainGlobals "is_in_order" = some (some (.ref fIo))) (lIo : K.lookup fIo = some ⟨ocIo, odIo, .func (PySem.W.fnOf "is_in_order" "is_in_order" (defArgs sIo) (defBody sIo) (defScope sIo) .none kVIo dcIo pmIo anIo cdIo ctIo), slIo⟩) (cIo : PySem.W.codeIn K cdIo "is_in_order" = true) (kIo : PySem.W.keepIn K (.ref fIo) = true)
    (aTp : PySem.W.nsIn K mainGlobals "term_place" = some (some (.ref fTp))) (lTp : K.lookup fTp = some ⟨ocTp, odTp, .func (PySem.W.fnOf "term_place" "term_place" (defArgs sTp) (defBody sTp) (defScope sTp) .none kVTp dcTp pmTp anTp cdTp ctTp), slTp⟩) (cTp : PySem.W.codeIn K cdTp "term_place" = true) (kTp : PySem.W.keepIn K (.ref fTp) = true)
    (aCt : PySem.W.nsIn K mainGlobals "cut_terms" = some (some (.ref fCt))) (lCt : K.lookup fCt = some ⟨ocCt, odCt, .func (PySem.W.fnOf "cut_terms" "cut_terms" (defArgs sCt) (defBody sCt) (defScope sCt) .none kVCt dcCt pmCt anCt cdCt ctCt), slCt⟩) (cCt : PySem.W.codeIn K cdCt "cut_terms" = true) (kCt : PySem.W.keepIn K (.ref fCt) = true)
    (aCp : PySem.W.nsIn K mainGlobals "count_points" = some (some (.ref fCp))) (lCp : K.lookup fCp = some ⟨ocCp, odCp, .func (PySem.W.fnOf "count_points" "count_points" (defArgs sCp) (defBody sCp) (defScope sCp) .none kVCp dcCp pmCp anCp cdCp ctCp), slCp⟩) (cCp : PySem.W.codeIn K cdCp "count_points" = true) (kCp : PySem.W.keepIn K (.ref fCp) = true)
    (aPn : PySem.W.nsIn K mainGlobals "point_numbers" = some (some (.ref fPn))) (lPn : K.lookup fPn = some ⟨ocPn, odPn, .func (PySem.W.fnOf "point_numbers" "point_numbers" (defArgs sPn) (defBody sPn) (defScope sPn) .none kVPn dcPn pmPn anPn cdPn ctPn), slPn⟩) (cPn : PySem.W.codeIn K cdPn "point_numbers" = true) (kPn : PySem.W.keepIn K (.ref fPn) = true)
    (aRv : PySem.W.nsIn K mainGlobals "row_value" = some (some (.ref fRv))) (lRv : K.lookup fRv = some ⟨ocRv, odRv, .func (PySem.W.fnOf "row_value" "row_value" (defArgs sRv) (defBody sRv) (defScope sRv) .none kVRv dcRv pmRv anRv cdRv ctRv), slRv⟩) (cRv : PySem.W.codeIn K cdRv "row_value" = true) (kRv : PySem.W.keepIn K (.ref fRv) = true)
    (aTv : PySem.W.nsIn K mainGlobals "term_value" = some (some (.ref fTv))) (lTv : K.lookup fTv = some ⟨ocTv, odTv, .func (PySem.W.fnOf "term_value" "term_value" (defArgs sTv) (defBody sTv) (defScope sTv) .none kVTv dcTv pmTv anTv cdTv ctTv), slTv⟩) (cTv : PySem.W.codeIn K cdTv "term_value" = true) (kTv : PySem.W.keepIn K (.ref fTv) = true)
    (aP_ : PySem.W.nsIn K mainGlobals "PRIMES" = some (some (.ref aP))) (lP : K.lookup aP = some ⟨.type "tuple", odP, .seq #[.int 2 tP1, .int 3 tP2, .int 5 tP3, .int 7 tP4] nP, slP⟩)
    (aU : PySem.W.nsIn K mainGlobals "MOST_UNKNOWNS" = some (some (.int 3 tU))) (aO : PySem.W.nsIn K mainGlobals "MOST_OFTEN" = some (some (.int 12 tO))) (aN : PySem.W.nsIn K mainGlobals "NOT_AS_TOLD" = some (some (.int (-22) tN))) (aS : PySem.W.nsIn K mainGlobals "NO_SUCH_POINT" = some (some (.int (-2) tS)))
    (zr : PySem.W.nsIn K mainGlobals "range" = some none) (zl : PySem.W.nsIn K mainGlobals "len" = some none) (zu : PySem.W.nsIn K mainGlobals "sum" = some none) (zm : PySem.W.nsIn K mainGlobals "max" = some none) :
    ∃ fd : FuncData, (∀ (s : Shared) (us : List Value), us.length = (["p", "n", "x", "f"] : List Str).length → BindsTo s fd ⟨us, []⟩ ((["p", "n", "x", "f"] : List Str).zip us)) ∧ ∀ base : Heap, K.In base → base.Ns mainGlobals mg → FnOk P w K mg base CX0 4 fa fd ["p", "n", "x", "f"] (spVa K) := by
  have e := hfa.symm.trans (PySem.W.mg_of X G aVa)
  cases e
  have FVa := fun_mk (st := sVa) lVa cVa kVa
  have FIp := fun_mk (st := sIp) lIp cIp kIp
  have bIp := FIp.binds (ps := ["p", "n", "f"]) fun _ _ _ _ _ _ us hl => match us, hl with | [_, _, _], _ => rfl
  have FIs := fun_mk (st := sIs) lIs cIs kIs
  have bIs := FIs.binds (ps := ["p", "n"]) fun _ _ _ _ _ _ us hl => match us, hl with | [_, _], _ => rfl
  have FIt := fun_mk (st := sIt) lIt cIt kIt
  have bIt := FIt.binds (ps := ["p", "term"]) fun _ _ _ _ _ _ us hl => match us, hl with | [_, _], _ => rfl
  have FIo := fun_mk (st := sIo) lIo cIo kIo
  have bIo := FIo.binds (ps := ["terms"]) fun _ _ _ _ _ _ us hl => match us, hl with | [_], _ => rfl
  have FTp := fun_mk (st := sTp) lTp cTp kTp
  have bTp := FTp.binds (ps := ["term"]) fun _ _ _ _ _ _ us hl => match us, hl with | [_], _ => rfl
  have FCt := fun_mk (st := sCt) lCt cCt kCt
  have bCt := FCt.binds (ps := ["n", "f"]) fun _ _ _ _ _ _ us hl => match us, hl with | [_, _], _ => rfl
  have FCp := fun_mk (st := sCp) lCp cCp kCp
  have bCp := FCp.binds (ps := ["p", "n"]) fun _ _ _ _ _ _ us hl => match us, hl with | [_, _], _ => rfl
  have FPn := fun_mk (st := sPn) lPn cPn kPn
  have bPn := FPn.binds (ps := ["p", "n", "x"]) fun _ _ _ _ _ _ us hl => match us, hl with | [_, _, _], _ => rfl
  have FRv := fun_mk (st := sRv) lRv cRv kRv
  have bRv := FRv.binds (ps := ["p", "terms", "point"]) fun _ _ _ _ _ _ us hl => match us, hl with | [_, _, _], _ => rfl
  have FTv := fun_mk (st := sTv) lTv cTv kTv
  have bTv := FTv.binds (ps := ["p", "term", "point"]) fun _ _ _ _ _ _ us hl => match us, hl with | [_, _, _], _ => rfl
  have hP : ∀ H : Hp, SqT K H aP [.int 2, .int 3, .int 5, .int 7] := fun H => .inr ⟨_, _, _, lP, rfl, rfl, (by show 4 ≤ sizeLine; decide), .cons ⟨_, rfl⟩ (.cons ⟨_, rfl⟩ (.cons ⟨_, rfl⟩ (.cons ⟨_, rfl⟩ .nil)))⟩
  have L : Low K mg fIs fIt fIo fTp fCt aP _ _ _ _ _ tU tO := ⟨FIs, FIt, FIo, FTp, FCt, bIs, bIt, bIo, bTp, bCt, PySem.W.mg_of X G aIs, PySem.W.mg_of X G aIt, PySem.W.mg_of X G aIo, PySem.W.mg_of X G aTp, PySem.W.mg_of X G aCt, PySem.W.mg_of X G aP_, hP, PySem.W.mg_of X G aU, PySem.W.mg_of X G aO, PySem.W.mg_none_of X G zr, PySem.W.mg_none_of X G zl, PySem.W.mg_none_of X G zu, PySem.W.mg_none_of X G zm⟩
  have W : Val K mg fIp fCp fPn fRv fTv _ _ _ _ _ tN tS := ⟨FIp, FCp, FPn, FRv, FTv, bIp, bCp, bPn, bRv, bTv, PySem.W.mg_of X G aIp, PySem.W.mg_of X G aCp, PySem.W.mg_of X G aPn, PySem.W.mg_of X G aRv, PySem.W.mg_of X G aTv, PySem.W.mg_of X G aN, PySem.W.mg_of X G aS⟩
  exact ⟨_, fun s us hu => match us, hu with | [_, _, _, _], _ => .of_eq rfl, fun base _ _ => ok_va FVa L W⟩
/-- a request's list, as natural numbers -/
theorem nat_of {l : List Int} {hi : Int} (h : l.all (PySem.W.Codec.inInt 0 hi) = true) : l = natI (l.map Int.toNat) := by
  rw [natI, List.map_map]
  refine ((List.map_congr_left fun x hx => ?_).trans (List.map_id l)).symm
  have q := PySem.W.Codec.inInt_iff.mp (List.all_eq_true.mp h x hx)
  show ((x.toNat : Nat) : Int) = x
  omega
end Nz
open PySem PySem.W PyProof.Rows
set_option maxRecDepth 100000 in
set_option maxHeartbeats 8000000 in
theorem PySem.Challenge.cw_noughtsets_s01_value_holds : PySem.Challenge.rw_noughtsets_s01_value.Holds := by
  w_on; k_headS; (case hw => exact ⟨[.int 0, .int 0, .int 0, .list []], by decide +kernel, by decide +kernel⟩)
  k_fillS
  refine L2.walk_specK (r := PySem.Challenge.rw_noughtsets_s01_value) (k := 4) (CX := L2.CX0) (ps := ["p", "n", "x", "f"]) (sp := Nz.spVa) (by decide +kernel) rfl rfl ⟨rfl, by decide, by decide⟩ (fun w h Y => PySem.W.kIn_of Y) ?F ?S (fun _ _ _ _ z => z)
  case F =>
    intro w mg fa h Y KX G hmg
    refine' Nz.all_mk KX G hmg ?aVa ?lVa ?cVa ?kVa ?aIp ?lIp ?cIp ?kIp ?aIs ?lIs ?cIs ?kIs ?aIt ?lIt ?cIt ?kIt ?aIo ?lIo ?cIo ?kIo ?aTp ?lTp ?cTp ?kTp ?aCt ?lCt ?cCt ?kCt ?aCp ?lCp ?cCp ?kCp ?aPn ?lPn ?cPn ?kPn ?aRv ?lRv ?cRv ?kRv ?aTv ?lTv ?cTv ?kTv ?aP_ ?lP ?aU ?aO ?aN ?aS ?zr ?zl ?zu ?zm
    (case aVa => k_is); (case lVa => k_is); (case cVa => k_is); (case kVa => k_is); (case aIp => k_is); (case lIp => k_is); (case cIp => k_is); (case kIp => k_is); (case aIs => k_is); (case lIs => k_is); (case cIs => k_is); (case kIs => k_is); (case aIt => k_is); (case lIt => k_is); (case cIt => k_is); (case kIt => k_is); (case aIo => k_is); (case lIo => k_is); (case cIo => k_is); (case kIo => k_is); (case aTp => k_is); (case lTp => k_is); (case cTp => k_is); (case kTp => k_is); (case aCt => k_is); (case lCt => k_is); (case cCt => k_is); (case kCt => k_is); (case aCp => k_is); (case lCp => k_is); (case cCp => k_is); (case kCp => k_is); (case aPn => k_is); (case lPn => k_is); (case cPn => k_is); (case kPn => k_is); (case aRv => k_is); (case lRv => k_is); (case cRv => k_is); (case kRv => k_is); (case aTv => k_is); (case lTv => k_is); (case cTv => k_is); (case kTv => k_is); (case aP_ => k_is); (case lP => k_is); (case aU => k_is); (case aO => k_is); (case aN => k_is); (case aS => k_is); (case zr => k_is); (case zl => k_is); (case zu => k_is); (case zm => k_is)
  case S =>
    intro K H xs a hO hwi hask hx
    obtain ⟨p, n, x, l, u⟩ := a
    have q : (Codec.inInt 0 4294967295 p && (Codec.inInt 0 4294967295 n && (Codec.inInt 0 4294967295 x && ((Codec.inLen 0 400 l && l.all (Codec.inInt 0 4294967295)) && true)))) = true := hwi
    rw [Bool.and_eq_true, Bool.and_eq_true, Bool.and_eq_true, Bool.and_eq_true, Bool.and_eq_true] at q
    obtain ⟨q1, q2, q5, ⟨q3, q4⟩, _⟩ := q
    have ep : p = ((p.toNat : Nat) : Int) := (Int.toNat_of_nonneg (Codec.inInt_iff.mp q1).1).symm
    have en : n = ((n.toNat : Nat) : Int) := (Int.toNat_of_nonneg (Codec.inInt_iff.mp q2).1).symm
    have ex : x = ((x.toNat : Nat) : Int) := (Int.toNat_of_nonneg (Codec.inInt_iff.mp q5).1).symm
    have el := Nz.nat_of q4
    have hl : (l.map Int.toNat).length ≤ 400 := by
      rw [List.length_map]
      exact (Codec.inNat_iff.mp q3).2
    generalize p.toNat = p' at ep
    generalize n.toNat = n' at en
    generalize x.toNat = x' at ex
    generalize l.map Int.toNat = l' at el hl
    subst ep en ex el
    cases hx with
    | cons h1 h2 =>
      cases h1
      cases h2 with
      | cons h2 h3 =>
        cases h2
        cases h3 with
        | cons h3 h4 =>
          cases h3
          cases h4 with
          | cons h4 h5 =>
            cases h5
            cases h4 with
            | lst hs ha =>
              have e := L2.ints_dw (Nz.natI l') _ ha
              subst e
              exact ⟨p', n', x', _, l', rfl, hs, hl, fun H' o ho => .lst (L2.SqL.of ho) (L2.dw_ints _)⟩
#print axioms PySem.Challenge.cw_noughtsets_s01_value_holds
