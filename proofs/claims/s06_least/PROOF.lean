import PyProof.Rows.All
import Wide.All
import OpenK.AllK
import Wide.FinOn
import KE.LtData
import HandS.List
import HandS.Comp
import HandS.Iter
import HandS.Words
import KE.SortKeyHeap
import HandS.SortKw
import HandS.Codes
import KE.DataMinMax
import HandS.ForMost
import HandS.Walk
import Open.SpecLaws
import KE.OsGo
import HandS.ForSpec
import PySem.Challenge.RW_noughtsets_s06_least
set_option Elab.async false
set_option linter.all false
set_option maxRecDepth 100000
set_option maxHeartbeats 1000000
namespace Nz
open Kzt1
/-! ### the row of a polynomial, cut -/
def tm (t : List Nat) : Term := ⟨t.headD 0, t.tail⟩
theorem tm_cons (c : Nat) (e : List Nat) : tm (c :: e) = ⟨c, e⟩ := rfl
def Rows (n : Nat) (T : List (List Nat)) : Prop := ∀ t ∈ T, t.length = n + 1
theorem Rows.tail {n : Nat} {t : List Nat} {T : List (List Nat)} (h : Rows n (t :: T)) : Rows n T := fun u hu => h u (List.mem_cons_of_mem _ hu)
theorem Rows.head {n : Nat} {t : List Nat} {T : List (List Nat)} (h : Rows n (t :: T)) : t.length = n + 1 := h t (List.mem_cons_self ..)
theorem flat_len {n : Nat} : ∀ {T : List (List Nat)}, Rows n T → T.flatten.length = T.length * (n + 1)
  | [], _ => by simp
  | t :: T, h => by
    rw [List.flatten_cons, List.length_append, flat_len h.tail, h.head, List.length_cons, Nat.succ_mul]
    omega
theorem cut_rows {n : Nat} : ∀ (T : List (List Nat)) (i : Nat), Rows n T → T.flatten.length ≤ i → cut n i T.flatten = some (T.map tm)
  | [], i, _, _ => by
    cases i <;> rfl
  | t :: T, i, h, hi => by
    have ht := h.head
    cases t with
    | nil => simp at ht
    | cons c e =>
      have he : e.length = n := by simpa using ht
      rw [List.flatten_cons, List.cons_append] at hi ⊢
      cases i with
      | zero => simp at hi
      | succ i =>
        have hi2 : (e ++ T.flatten).length ≤ i := by
          rw [List.length_cons] at hi
          omega
        rw [cut]
        rw [if_neg (by rw [List.length_append]; omega)]
        rw [List.drop_left' he, List.take_left' he, cut_rows T i h.tail (by rw [List.length_append] at hi2; omega)]
        rfl
theorem cut_none {n : Nat} : ∀ (i : Nat) (l : List Nat), l.length % (n + 1) ≠ 0 → l.length ≤ i → cut n i l = none
  | i, [], h, _ => by simp at h
  | 0, c :: l, _, hi => by simp at hi
  | i + 1, c :: l, h, hi => by
    rw [cut]
    by_cases hc : l.length < n
    · rw [if_pos hc]
    · rw [if_neg hc]
      rw [cut_none i (l.drop n) ?_ ?_]
      · rfl
      · rw [List.length_drop]
        rw [List.length_cons] at h
        intro q
        apply h
        have e : l.length + 1 = (l.length - n) + (n + 1) := by omega
        rw [e, Nat.add_mod_right]
        exact q
      · rw [List.length_drop]
        rw [List.length_cons] at hi
        omega
theorem rows_ex {n : Nat} : ∀ (m : Nat) (l : List Nat), l.length = m * (n + 1) → ∃ T : List (List Nat), T.flatten = l ∧ Rows n T ∧ T.length = m
  | 0, l, h => by
    rw [Nat.zero_mul] at h
    exact ⟨[], (List.eq_nil_of_length_eq_zero h).symm, (fun _ h => by cases h), rfl⟩
  | m + 1, l, h => by
    rw [Nat.succ_mul] at h
    obtain ⟨T, e1, e2, e3⟩ := rows_ex (n := n) m (l.drop (n + 1)) (by rw [List.length_drop]; omega)
    refine ⟨l.take (n + 1) :: T, ?_, ?_, by rw [List.length_cons, e3]⟩
    · rw [List.flatten_cons, e1, List.take_append_drop]
    · intro t ht
      rcases List.mem_cons.mp ht with rfl | ht
      · rw [List.length_take]
        omega
      · exact e2 t ht
/-- the i-th piece of the row is the i-th of its terms -/
theorem piece {n : Nat} : ∀ {T : List (List Nat)} {i : Nat} {t : List Nat}, Rows n T → T[i]? = some t → (T.flatten.drop (i * (n + 1))).take (n + 1) = t
  | [], i, t, _, h => by simp at h
  | u :: T, 0, t, r, h => by
    have e : u = t := Option.some.inj h
    subst e
    rw [Nat.zero_mul, List.drop_zero, List.flatten_cons, List.take_left' r.head]
  | u :: T, i + 1, t, r, h => by
    have ih := piece (i := i) r.tail h
    have hd : ((u :: T).flatten).drop ((i + 1) * (n + 1)) = T.flatten.drop (i * (n + 1)) := by
      rw [List.flatten_cons, Nat.succ_mul, Nat.add_comm, ← List.drop_drop, List.drop_left' r.head]
    rw [hd]
    exact ih
/-! ### the order of terms -/
theorem lexB_irr : ∀ e : List Nat, lexBefore e e = false
  | [] => rfl
  | a :: l => by
    rw [lexBefore, lexB_irr l]
    simp
theorem lexB_trans : ∀ (a b c : List Nat), lexBefore a b = true → lexBefore b c = true → lexBefore a c = true
  | [], _, _, h, _ => by simp [lexBefore] at h
  | _ :: _, [], _, h, _ => by simp [lexBefore] at h
  | _ :: _, _ :: _, [], _, h => by simp [lexBefore] at h
  | x :: a, y :: b, z :: c, h1, h2 => by
    simp only [lexBefore, Bool.or_eq_true, Bool.and_eq_true, decide_eq_true_eq, beq_iff_eq] at h1 h2 ⊢
    rcases h1 with h1 | ⟨h1, k1⟩ <;> rcases h2 with h2 | ⟨h2, k2⟩
    · left; omega
    · left; omega
    · left; omega
    · right
      exact ⟨by omega, lexB_trans a b c k1 k2⟩
theorem lexB_tri : ∀ (a b : List Nat), a.length = b.length → a ≠ b → lexBefore a b = false → lexBefore b a = true
  | [], [], _, h, _ => absurd rfl h
  | [], _ :: _, h, _, _ => by simp at h
  | _ :: _, [], h, _, _ => by simp at h
  | x :: a, y :: b, hl, hne, h => by
    simp only [lexBefore, Bool.or_eq_false_iff, Bool.and_eq_false_iff, decide_eq_false_iff_not, beq_eq_false_iff_ne] at h
    simp only [lexBefore, Bool.or_eq_true, Bool.and_eq_true, decide_eq_true_eq, beq_iff_eq]
    by_cases e : x = y
    · right
      subst e
      refine ⟨rfl, lexB_tri a b (by simpa using hl) (fun z => hne (by rw [z])) ?_⟩
      rcases h.2 with q | q
      · exact absurd rfl q
      · exact q
    · left
      omega
theorem bef_irr (e : List Nat) : before e e = false := by
  simp [before, lexB_irr]
theorem bef_trans {a b c : List Nat} (h1 : before a b = true) (h2 : before b c = true) : before a c = true := by
  simp only [before, Bool.or_eq_true, Bool.and_eq_true, decide_eq_true_eq, beq_iff_eq] at h1 h2 ⊢
  rcases h1 with h1 | ⟨h1, k1⟩ <;> rcases h2 with h2 | ⟨h2, k2⟩
  · left; omega
  · left; omega
  · left; omega
  · right
    exact ⟨by omega, lexB_trans a b c k1 k2⟩
theorem bef_asym {a b : List Nat} (h : before a b = true) : before b a = false := by
  cases e : before b a with
  | false => rfl
  | true =>
    have := bef_trans h e
    rw [bef_irr] at this
    cases this
theorem bef_ne {a b : List Nat} (h : before a b = true) : a ≠ b := fun e => by
  subst e
  rw [bef_irr] at h
  cases h
theorem bef_tri {a b : List Nat} (hl : a.length = b.length) (hne : a ≠ b) (h : before a b = false) : before b a = true := by
  simp only [before, Bool.or_eq_false_iff, Bool.and_eq_false_iff, decide_eq_false_iff_not, beq_eq_false_iff_ne] at h
  simp only [before, Bool.or_eq_true, Bool.and_eq_true, decide_eq_true_eq, beq_iff_eq]
  by_cases e : total a = total b
  · right
    refine ⟨e.symm, lexB_tri a b hl hne ?_⟩
    rcases h.2 with q | q
    · exact absurd e q
    · exact q
  · left
    omega
/-! ### norm -/
def Srt (l : List Term) : Prop := l.Pairwise fun a b => before a.e b.e = true
def Lens (n : Nat) (l : List Term) : Prop := ∀ t ∈ l, t.e.length = n
theorem put_mem {p : Nat} {t : Term} : ∀ {l : List Term} {u : Term}, u ∈ put p t l → u.e = t.e ∨ ∃ v ∈ l, u.e = v.e
  | [], u, h => by
    unfold put at h
    split at h
    · cases h
    · left
      rw [List.mem_singleton.mp h]
  | v :: l, u, h => by
    unfold put at h
    split at h
    · split at h
      · exact .inr ⟨u, List.mem_cons_of_mem _ h, rfl⟩
      · rcases List.mem_cons.mp h with rfl | h
        · exact .inr ⟨v, List.mem_cons_self .., rfl⟩
        · exact .inr ⟨u, List.mem_cons_of_mem _ h, rfl⟩
    · split at h
      · split at h
        · exact .inr ⟨u, h, rfl⟩
        · rcases List.mem_cons.mp h with rfl | h
          · exact .inl rfl
          · exact .inr ⟨u, h, rfl⟩
      · rcases List.mem_cons.mp h with rfl | h
        · exact .inr ⟨u, List.mem_cons_self .., rfl⟩
        · rcases put_mem h with q | ⟨w, hw, q⟩
          · exact .inl q
          · exact .inr ⟨w, List.mem_cons_of_mem _ hw, q⟩
theorem put_lens {n p : Nat} {t : Term} {l : List Term} (ht : t.e.length = n) (hl : Lens n l) : Lens n (put p t l) := fun u hu => by
  rcases put_mem hu with q | ⟨v, hv, q⟩
  · rw [q, ht]
  · rw [q, hl v hv]
theorem put_srt {n p : Nat} {t : Term} : ∀ {l : List Term}, t.e.length = n → Lens n l → Srt l → Srt (put p t l)
  | [], _, _, _ => by
    unfold put
    split
    · exact List.Pairwise.nil
    · exact List.pairwise_singleton _ _
  | v :: l, ht, hl, hs => by
    have hs1 := List.pairwise_cons.mp hs
    have hl1 : Lens n l := fun u hu => hl u (List.mem_cons_of_mem _ hu)
    unfold put
    split
    · split
      · exact hs1.2
      · exact List.pairwise_cons.mpr ⟨hs1.1, hs1.2⟩
    · rename_i hne
      split
      · rename_i hb
        split
        · exact hs
        · refine List.pairwise_cons.mpr ⟨fun u hu => ?_, hs⟩
          rcases List.mem_cons.mp hu with rfl | hu
          · exact hb
          · exact bef_trans hb (hs1.1 u hu)
      · rename_i hb
        have hvt : before v.e t.e = true := bef_tri (by rw [ht, hl v (List.mem_cons_self ..)]) hne (by simpa using hb)
        refine List.pairwise_cons.mpr ⟨fun u hu => ?_, put_srt ht hl1 hs1.2⟩
        rcases put_mem hu with q | ⟨w, hw, q⟩
        · rw [q]
          exact hvt
        · rw [q]
          exact hs1.1 w hw
theorem fold_srt {n p : Nat} : ∀ (f acc : List Term), Lens n f → Lens n acc → Srt acc → Srt (f.foldl (fun a t => put p t a) acc) ∧ Lens n (f.foldl (fun a t => put p t a) acc)
  | [], acc, _, ha, hs => ⟨hs, ha⟩
  | t :: f, acc, hf, ha, hs => by
    have ht := hf t (List.mem_cons_self ..)
    exact fold_srt f (put p t acc) (fun u hu => hf u (List.mem_cons_of_mem _ hu)) (put_lens ht ha) (put_srt ht ha hs)
theorem norm_srt {n p : Nat} {f : List Term} (h : Lens n f) : Srt (norm p f) := (fold_srt f [] h (fun _ h => by cases h) List.Pairwise.nil).1
theorem norm_lens {n p : Nat} {f : List Term} (h : Lens n f) : Lens n (norm p f) := (fold_srt f [] h (fun _ h => by cases h) List.Pairwise.nil).2
theorem put_last {p : Nat} {t : Term} (h1 : 1 ≤ t.c) (h2 : t.c < p) : ∀ {l : List Term}, (∀ u ∈ l, before u.e t.e = true) → put p t l = l ++ [t]
  | [], _ => by
    unfold put
    rw [Nat.mod_eq_of_lt h2, if_neg (by omega)]
    rfl
  | v :: l, h => by
    have hv := h v (List.mem_cons_self ..)
    unfold put
    rw [if_neg (fun e => bef_ne hv e.symm), if_neg (by rw [bef_asym hv]; exact Bool.false_ne_true), put_last h1 h2 fun u hu => h u (List.mem_cons_of_mem _ hu)]
    rfl
def Facs (p : Nat) (l : List Term) : Prop := ∀ t ∈ l, 1 ≤ t.c ∧ t.c < p
theorem fold_id {p : Nat} : ∀ (f acc : List Term), Facs p f → Srt (acc ++ f) → f.foldl (fun a t => put p t a) acc = acc ++ f
  | [], acc, _, _ => by simp
  | t :: f, acc, hf, hs => by
    have ht := hf t (List.mem_cons_self ..)
    have h1 := List.pairwise_append.mp hs
    rw [List.foldl_cons, put_last ht.1 ht.2 fun u hu => h1.2.2 u hu t (List.mem_cons_self ..)]
    have hs2 : Srt ((acc ++ [t]) ++ f) := by
      rw [List.append_assoc]
      exact hs
    rw [fold_id f (acc ++ [t]) (fun u hu => hf u (List.mem_cons_of_mem _ hu)) hs2, List.append_assoc]
    rfl
theorem norm_id {p : Nat} {f : List Term} (hf : Facs p f) (hs : Srt f) : norm p f = f := (fold_id f [] hf hs).trans (List.nil_append f)
/-! ### what is asked of a row -/
def isT (p : Nat) (t : List Nat) : Bool := decide (1 ≤ t.headD 0) && decide (t.headD 0 < p) && t.tail.all fun x => decide (x ≤ 12)
def chain : List (List Nat) → Bool
  | a :: b :: r => before a.tail b.tail && chain (b :: r)
  | _ => true
theorem chain_iff : ∀ T : List (List Nat), chain T = true ↔ ∀ (i : Nat) (a b : List Nat), T[i]? = some a → T[i + 1]? = some b → before a.tail b.tail = true
  | [] => by simp [chain]
  | [_] => by simp [chain]
  | a :: b :: r => by
    rw [chain, Bool.and_eq_true, chain_iff (b :: r)]
    constructor
    · rintro ⟨h1, h2⟩ i x y hx hy
      cases i with
      | zero =>
        have e1 : a = x := Option.some.inj hx
        have e2 : b = y := Option.some.inj hy
        rw [← e1, ← e2]
        exact h1
      | succ i => exact h2 i x y hx hy
    · intro h
      exact ⟨h 0 a b rfl rfl, fun i x y hx hy => h (i + 1) x y hx hy⟩
theorem chain_srt : ∀ T : List (List Nat), chain T = true ↔ Srt (T.map tm)
  | [] => ⟨fun _ => List.Pairwise.nil, fun _ => rfl⟩
  | [_] => ⟨fun _ => List.pairwise_singleton _ _, fun _ => rfl⟩
  | a :: b :: r => by
    rw [chain, Bool.and_eq_true, chain_srt (b :: r)]
    constructor
    · rintro ⟨h1, h2⟩
      refine List.pairwise_cons.mpr ⟨fun u hu => ?_, h2⟩
      rcases List.mem_cons.mp hu with rfl | hu
      · exact h1
      · exact bef_trans h1 ((List.pairwise_cons.mp h2).1 u hu)
    · intro h
      have h1 := List.pairwise_cons.mp h
      exact ⟨h1.1 (tm b) (List.mem_cons_self ..), h1.2⟩
def okRow (p : Nat) (T : List (List Nat)) : Bool := T.all (isT p) && chain T
theorem rows_lens {n : Nat} {T : List (List Nat)} (h : Rows n T) : Lens n (T.map tm) := fun t ht => by
  obtain ⟨u, hu, rfl⟩ := List.mem_map.mp ht
  show u.tail.length = n
  rw [List.length_tail, h u hu]
  rfl
theorem okRow_facs {p : Nat} {T : List (List Nat)} (h : T.all (isT p) = true) : Facs p (T.map tm) := fun t ht => by
  obtain ⟨u, hu, rfl⟩ := List.mem_map.mp ht
  have q := List.all_eq_true.mp h u hu
  simp only [isT, Bool.and_eq_true, decide_eq_true_eq] at q
  exact q.1
theorem okPoly_is {p n : Nat} {T : List (List Nat)} (h : Rows n T) : okPoly p n (T.map tm) = okRow p T := by
  have e1 : ((T.map tm).all fun t => decide (1 ≤ t.c) && decide (t.c < p) && t.e.length == n && t.e.all fun x => decide (x ≤ 12)) = T.all (isT p) := by
    rw [List.all_map]
    apply Bool.eq_iff_iff.mpr
    rw [List.all_eq_true, List.all_eq_true]
    have e2 : ∀ u ∈ T, ((fun t : Term => decide (1 ≤ t.c) && decide (t.c < p) && t.e.length == n && t.e.all fun x => decide (x ≤ 12)) ∘ tm) u = isT p u := fun u hu => by
      have e3 : ((tm u).e.length == n) = true := by
        rw [beq_iff_eq]
        exact rows_lens h (tm u) (List.mem_map_of_mem hu)
      show (decide (1 ≤ (tm u).c) && decide ((tm u).c < p) && (tm u).e.length == n && (tm u).e.all fun x => decide (x ≤ 12)) = isT p u
      rw [e3, Bool.and_true]
      rfl
    constructor
    · intro q u hu
      rw [← e2 u hu]
      exact q u hu
    · intro q u hu
      rw [e2 u hu]
      exact q u hu
  rw [okPoly, e1, okRow]
  by_cases c : T.all (isT p) = true
  · rw [c, Bool.true_and, Bool.true_and]
    apply Bool.eq_iff_iff.mpr
    rw [beq_iff_eq, chain_srt]
    constructor
    · intro q
      rw [← q]
      exact norm_srt (rows_lens h)
    · intro q
      exact norm_id (okRow_facs c) q
  · rw [Bool.not_eq_true] at c
    rw [c, Bool.false_and, Bool.false_and]
theorem read_rows {p n : Nat} {T : List (List Nat)} (h : Rows n T) : readPoly p n T.flatten = if okRow p T = true then some (T.map tm) else none := by
  rw [readPoly, cut_rows T _ h (Nat.le_refl _)]
  show (if okPoly p n (T.map tm) = true then some (T.map tm) else none) = _
  rw [okPoly_is h]
theorem read_none {p n : Nat} {l : List Nat} (h : l.length % (n + 1) ≠ 0) : readPoly p n l = none := by
  rw [readPoly, cut_none _ l h (Nat.le_refl _)]
end Nz
namespace Nz
open Kzt1
/-! ### values -/
/-- v times a, k times over -/
def timesN (p a : Nat) : Nat → Nat → Nat
  | 0, v => v
  | k + 1, v => timesN p a k v * a % p
theorem timesN_lt {p a : Nat} (h : 0 < p) : ∀ (k v : Nat), v < p → timesN p a k v < p
  | 0, _, hv => hv
  | k + 1, v, _ => Nat.mod_lt _ h
theorem powMod_lt {p a : Nat} (h : 0 < p) : ∀ k : Nat, powMod p a k < p
  | 0 => Nat.mod_lt _ h
  | k + 1 => Nat.mod_lt _ h
theorem timesN_is {p a : Nat} (h : 1 < p) : ∀ (k v : Nat), v < p → timesN p a k v = v * powMod p a k % p
  | 0, v, hv => by
    show v = v * (1 % p) % p
    rw [Nat.mod_eq_of_lt h, Nat.mul_one, Nat.mod_eq_of_lt hv]
  | k + 1, v, hv => by
    show timesN p a k v * a % p = v * (powMod p a k * a % p) % p
    rw [timesN_is h k v hv]
    rw [Nat.mod_mul_mod, Nat.mul_mod_mod, Nat.mul_assoc]
/-- one term: factor c, then for each unknown its number as often as told -/
def tvE (p : Nat) : List (Nat × Nat) → Nat → Nat
  | [], v => v
  | y :: r, v => tvE p r (timesN p y.2 y.1 v)
theorem tvE_is {p : Nat} (h : 1 < p) : ∀ (l : List (Nat × Nat)) (v : Nat), v < p → tvE p l v = l.foldl (fun v y => v * powMod p y.2 y.1 % p) v
  | [], _, _ => rfl
  | y :: r, v, hv => by
    show tvE p r (timesN p y.2 y.1 v) = r.foldl _ (v * powMod p y.2 y.1 % p)
    rw [← timesN_is h _ _ hv]
    exact tvE_is h r _ (timesN_lt (by omega) _ _ hv)
theorem tvE_lt {p : Nat} (h : 0 < p) : ∀ (l : List (Nat × Nat)) (v : Nat), v < p → tvE p l v < p
  | [], _, hv => hv
  | y :: r, v, hv => tvE_lt h r _ (timesN_lt h _ _ hv)
theorem tvE_app {p : Nat} : ∀ (l r : List (Nat × Nat)) (v : Nat), tvE p (l ++ r) v = tvE p r (tvE p l v)
  | [], _, _ => rfl
  | y :: l, r, v => tvE_app l r _
/-- one term at a point -/
def tv (p : Nat) (t x : List Nat) : Nat := tvE p (t.tail.zip x) (t.headD 0)
/-- all terms: each time the remainder -/
def rv (p : Nat) (x : List Nat) (T : List (List Nat)) : Nat := T.foldl (fun a t => (a + tv p t x) % p) 0
theorem rv_snoc (p : Nat) (x : List Nat) (T : List (List Nat)) (t : List Nat) : rv p x (T ++ [t]) = (rv p x T + tv p t x) % p := by
  rw [rv, List.foldl_append]
  rfl
theorem rv_lt {p : Nat} (hp : 0 < p) (x : List Nat) (T : List (List Nat)) : rv p x T < p := by
  rcases List.eq_nil_or_concat T with rfl | ⟨l, t, rfl⟩
  · exact hp
  · rw [List.concat_eq_append, rv_snoc]
    exact Nat.mod_lt _ hp
theorem fold_mod {α : Type} (p : Nat) (g : α → Nat) : ∀ (l : List α) (a : Nat), l.foldl (fun a t => (a + g t) % p) (a % p) = (l.map g).foldl (· + ·) a % p
  | [], _ => rfl
  | t :: l, a => by
    rw [List.foldl_cons, List.map_cons, List.foldl_cons, ← fold_mod p g l (a + g t), Nat.mod_add_mod]
theorem rv_is {p : Nat} {T : List (List Nat)} (hp : 1 < p) (hf : Facs p (T.map tm)) (x : List Nat) : rv p x T = Kzt1.value p (T.map tm) x := by
  have e0 : (0 : Nat) = 0 % p := (Nat.zero_mod p).symm
  rw [rv, Kzt1.value]
  have e1 : T.foldl (fun a t => (a + tv p t x) % p) (0 % p) = (T.map fun t => tv p t x).foldl (· + ·) 0 % p := fold_mod p (fun t => tv p t x) T 0
  rw [← e0] at e1
  rw [e1, List.map_map]
  congr 2
  apply List.map_congr_left
  intro t ht
  have q := hf (tm t) (List.mem_map_of_mem ht)
  exact tvE_is hp _ _ q.2
/-! ### points -/
theorem coords_snoc (p k x : Nat) : coords p (k + 1) x = coords p k x ++ [x / p ^ k % p] := by
  rw [coords, coords, List.range_succ, List.map_append]
  rfl
theorem coords_len (p n x : Nat) : (coords p n x).length = n := by
  rw [coords, List.length_map, List.length_range]
/-! ### zeros -/
def zs (p n : Nat) (T : List (List Nat)) (k : Nat) : List Nat := (List.range k).filter fun x => rv p (coords p n x) T == 0
theorem zs_succ (p n : Nat) (T : List (List Nat)) (k : Nat) : zs p n T (k + 1) = if rv p (coords p n k) T = 0 then zs p n T k ++ [k] else zs p n T k := by
  rw [zs, zs, List.range_succ, List.filter_append]
  by_cases c : rv p (coords p n k) T = 0
  · rw [if_pos c]
    simp [c]
  · rw [if_neg c]
    simp [c]
theorem zs_len (p n : Nat) (T : List (List Nat)) (k : Nat) : (zs p n T k).length ≤ k := by
  have := List.length_filter_le (fun x => rv p (coords p n x) T == 0) (List.range k)
  rw [List.length_range] at this
  exact this
theorem zs_is {p n : Nat} {T : List (List Nat)} (hp : 1 < p) (hf : Facs p (T.map tm)) : zs p n T (p ^ n) = Kzt1.zeros p n (T.map tm) := by
  rw [zs, Kzt1.zeros, space]
  congr 1
  funext x
  rw [rv_is hp hf]
  rfl
/-! ### what is due -/
def natI (l : List Nat) : List Int := l.map fun x : Nat => (x : Int)
theorem nats_natI (l : List Nat) : Kzt1Neutral.natsOf (natI l) = l := by
  rw [Kzt1Neutral.natsOf, natI, List.map_map]
  exact (List.map_congr_left fun x _ => Int.toNat_natCast x).trans (List.map_id l)
theorem okField_iff {p n : Nat} : okField p n = true ↔ (p = 2 ∨ p = 3 ∨ p = 5 ∨ p = 7) ∧ 1 ≤ n ∧ n ≤ 3 := by
  simp only [okField, Bool.and_eq_true, Bool.or_eq_true, beq_iff_eq, decide_eq_true_eq, or_assoc, and_assoc]
theorem okField_p {p n : Nat} (h : okField p n = true) : 1 < p ∧ p ≤ 7 := by
  have := (okField_iff.mp h).1
  omega
theorem okField_n {p n : Nat} (h : okField p n = true) : 1 ≤ n ∧ n ≤ 3 := (okField_iff.mp h).2
/-- is it a polynomial, with p and n as they should be -/
def isP (p n : Nat) (l : List Nat) : Bool := okField p n && (readPoly p n l).isSome
theorem isP_mod {p n : Nat} {l : List Nat} (h : l.length % (n + 1) ≠ 0) : isP p n l = false := by
  rw [isP, read_none h, Option.isSome_none, Bool.and_false]
theorem isP_rows {p n : Nat} {T : List (List Nat)} (h1 : okField p n = true) (h : Rows n T) : isP p n T.flatten = okRow p T := by
  rw [isP, read_rows h, h1, Bool.true_and]
  cases okRow p T <;> rfl
theorem isP_field {p n : Nat} {l : List Nat} (h : okField p n = false) : isP p n l = false := by
  rw [isP, h, Bool.false_and]
/-- a polynomial's terms -/
theorem isP_ex {p n : Nat} {l : List Nat} (h : isP p n l = true) : okField p n = true ∧ ∃ T : List (List Nat), T.flatten = l ∧ Rows n T ∧ okRow p T = true ∧ readPoly p n l = some (T.map tm) := by
  rw [isP, Bool.and_eq_true] at h
  refine ⟨h.1, ?_⟩
  by_cases c : l.length % (n + 1) = 0
  · obtain ⟨T, e1, e2, _⟩ := rows_ex (n := n) (l.length / (n + 1)) l (by
      have := Nat.div_add_mod l.length (n + 1)
      rw [c, Nat.add_zero, Nat.mul_comm] at this
      exact this.symm)
    subst e1
    have q := h.2
    rw [read_rows e2] at q
    by_cases o : okRow p T = true
    · exact ⟨T, rfl, e2, o, by rw [read_rows e2, if_pos o]⟩
    · rw [if_neg o] at q
      cases q
  · have q := h.2
    rw [read_none c] at q
    cases q
theorem due_refused {p n : Nat} {l : List Nat} (h : isP p n l = false) (g : List Term → Ans) : (if okField p n = false then say (-22) else withPoly p n l g) = say (-22) := by
  by_cases c : okField p n = false
  · rw [if_pos c]
  · rw [if_neg c]
    have c' : okField p n = true := by simpa using c
    rw [isP, c', Bool.true_and] at h
    rw [withPoly]
    cases e : readPoly p n l with
    | none => rfl
    | some f =>
      rw [e] at h
      cases h
theorem due_taken {p n : Nat} {l : List Nat} {f : List Term} (h : okField p n = true) (hr : readPoly p n l = some f) (g : List Term → Ans) : (if okField p n = false then say (-22) else withPoly p n l g) = g f := by
  rw [h, if_neg (by decide), withPoly, hr]
end Nz
namespace Nz
open Kzt1
/-! ### what a list of terms comes to, whatever number each row of powers stands for -/
def S (f : List Term) (v : List Nat → Nat) : Nat := (f.map fun t => t.c * v t.e).sum
theorem S_nil (v : List Nat → Nat) : S [] v = 0 := rfl
theorem S_cons (t : Term) (f : List Term) (v : List Nat → Nat) : S (t :: f) v = t.c * v t.e + S f v := by
  rw [S, List.map_cons, List.sum_cons]
  rfl
theorem S_app (f g : List Term) (v : List Nat → Nat) : S (f ++ g) v = S f v + S g v := by
  rw [S, List.map_append, List.sum_append]
  rfl
/-- the same modulo p -/
def Eqm (p a b : Nat) : Prop := a % p = b % p
theorem Eqm.rfl' {p a : Nat} : Eqm p a a := rfl
theorem Eqm.symm {p a b : Nat} (h : Eqm p a b) : Eqm p b a := Eq.symm h
theorem Eqm.trans {p a b c : Nat} (h : Eqm p a b) (k : Eqm p b c) : Eqm p a c := Eq.trans h k
theorem Eqm.add {p a b c d : Nat} (h : Eqm p a b) (k : Eqm p c d) : Eqm p (a + c) (b + d) := by
  unfold Eqm at *
  rw [Nat.add_mod, h, k, ← Nat.add_mod]
theorem Eqm.mul {p a b c d : Nat} (h : Eqm p a b) (k : Eqm p c d) : Eqm p (a * c) (b * d) := by
  unfold Eqm at *
  rw [Nat.mul_mod, h, k, ← Nat.mul_mod]
theorem Eqm.mod (p a : Nat) : Eqm p (a % p) a := Nat.mod_mod a p
theorem Eqm.of_eq {p a b : Nat} (h : a = b) : Eqm p a b := by rw [h]; rfl
theorem Eqm.lt {p a b : Nat} (h : Eqm p a b) (ha : a < p) (hb : b < p) : a = b := by
  unfold Eqm at h
  rwa [Nat.mod_eq_of_lt ha, Nat.mod_eq_of_lt hb] at h
theorem Eqm.zero {p a : Nat} (h : a % p = 0) : Eqm p a 0 := by
  unfold Eqm
  rw [h, Nat.zero_mod]
theorem Eqm.cancel {p a b c : Nat} (h : Eqm p (a + c) (b + c)) : Eqm p a b := by
  unfold Eqm at *
  rcases Nat.eq_zero_or_pos p with hp | hp
  · subst hp
    simp only [Nat.mod_zero] at *
    omega
  · have h1 : Eqm p (a + c + (p - c % p)) (b + c + (p - c % p)) := Eqm.add h rfl
    have h2 : ∀ x, Eqm p (x + c + (p - c % p)) x := fun x => by
      have hc := Nat.mod_lt c hp
      have e : x + c + (p - c % p) = x + p * (c / p + 1) := by
        have := Nat.div_add_mod c p
        rw [Nat.mul_add, Nat.mul_one]
        omega
      unfold Eqm
      rw [e, Nat.add_mul_mod_self_left]
    exact (h2 a).symm.trans (h1.trans (h2 b))
theorem S_put {p : Nat} (v : List Nat → Nat) {t : Term} : ∀ l : List Term, Eqm p (S (put p t l) v) (t.c * v t.e + S l v)
  | [] => by
    unfold put
    split
    · rename_i h
      rw [S_nil]
      have e : Eqm p (t.c * v t.e) 0 := ((Eqm.zero h).mul (Eqm.rfl' (a := v t.e))).trans (Eqm.of_eq (Nat.zero_mul _))
      exact (e.add (Eqm.rfl' (a := 0))).symm
    · rw [S_cons, S_nil]
      exact ((Eqm.mod p t.c).mul Eqm.rfl').add Eqm.rfl'
  | u :: l => by
    unfold put
    split
    · rename_i he
      have e1 : Eqm p ((t.c + u.c) * v u.e + S l v) (t.c * v t.e + S (u :: l) v) := Eqm.of_eq (by
        rw [S_cons, he, Nat.add_mul, Nat.add_assoc])
      split
      · rename_i h
        have e : Eqm p ((t.c + u.c) * v u.e) 0 := ((Eqm.zero h).mul (Eqm.rfl' (a := v u.e))).trans (Eqm.of_eq (Nat.zero_mul _))
        exact ((Eqm.of_eq (Nat.zero_add (S l v)).symm).trans (e.symm.add Eqm.rfl')).trans e1
      · rw [S_cons]
        exact (((Eqm.mod p (t.c + u.c)).mul Eqm.rfl').add Eqm.rfl').trans e1
    · split
      · split
        · rename_i h
          have e : Eqm p (t.c * v t.e) 0 := ((Eqm.zero h).mul (Eqm.rfl' (a := v t.e))).trans (Eqm.of_eq (Nat.zero_mul _))
          exact (Eqm.of_eq (Nat.zero_add _).symm).trans (e.symm.add Eqm.rfl')
        · rw [S_cons]
          exact ((Eqm.mod p t.c).mul Eqm.rfl').add Eqm.rfl'
      · rw [S_cons, S_cons]
        refine (Eqm.rfl'.add (S_put v l)).trans (Eqm.of_eq ?_)
        omega
theorem S_fold {p : Nat} (v : List Nat → Nat) : ∀ f acc : List Term, Eqm p (S (f.foldl (fun a t => put p t a) acc) v) (S f v + S acc v)
  | [], acc => Eqm.of_eq (by rw [S_nil, Nat.zero_add]; rfl)
  | t :: f, acc => by
    rw [List.foldl_cons, S_cons]
    refine (S_fold v f (put p t acc)).trans ((Eqm.rfl'.add (S_put v acc)).trans (Eqm.of_eq ?_))
    omega
theorem S_norm {p : Nat} (v : List Nat → Nat) (f : List Term) : Eqm p (S (norm p f) v) (S f v) := (S_fold v f []).trans (Eqm.of_eq (by rw [S_nil]; rfl))
/-! ### factors -/
theorem put_facs {p : Nat} (hp : 0 < p) {t : Term} : ∀ {l : List Term}, Facs p l → Facs p (put p t l)
  | [], _ => by
    unfold put
    split
    · exact fun u h => by cases h
    · intro u h
      rw [List.mem_singleton.mp h]
      exact ⟨Nat.pos_of_ne_zero (by assumption), Nat.mod_lt _ hp⟩
  | v :: l, h => by
    have hl : Facs p l := fun u hu => h u (List.mem_cons_of_mem _ hu)
    have hv := h v (List.mem_cons_self ..)
    unfold put
    split
    · split
      · exact hl
      · intro u hu
        rcases List.mem_cons.mp hu with rfl | hu
        · exact ⟨Nat.pos_of_ne_zero (by assumption), Nat.mod_lt _ hp⟩
        · exact hl u hu
    · split
      · split
        · exact h
        · intro u hu
          rcases List.mem_cons.mp hu with rfl | hu
          · exact ⟨Nat.pos_of_ne_zero (by assumption), Nat.mod_lt _ hp⟩
          · exact h u hu
      · intro u hu
        rcases List.mem_cons.mp hu with rfl | hu
        · exact hv
        · exact put_facs hp hl u hu
theorem fold_facs {p : Nat} (hp : 0 < p) : ∀ (f acc : List Term), Facs p acc → Facs p (f.foldl (fun a t => put p t a) acc)
  | [], _, h => h
  | t :: f, acc, h => fold_facs hp f _ (put_facs hp h)
theorem norm_facs {p : Nat} (hp : 0 < p) (f : List Term) : Facs p (norm p f) := fold_facs hp f [] fun _ h => by cases h
theorem fold_mem {p : Nat} : ∀ (f acc : List Term) (u : Term), u ∈ f.foldl (fun a t => put p t a) acc → (∃ v ∈ f, u.e = v.e) ∨ ∃ v ∈ acc, u.e = v.e
  | [], acc, u, h => .inr ⟨u, h, rfl⟩
  | t :: f, acc, u, h => by
    rcases fold_mem f (put p t acc) u h with ⟨v, hv, e⟩ | ⟨v, hv, e⟩
    · exact .inl ⟨v, List.mem_cons_of_mem _ hv, e⟩
    · rcases put_mem hv with q | ⟨w, hw, q⟩
      · exact .inl ⟨t, List.mem_cons_self .., e.trans q⟩
      · exact .inr ⟨w, hw, e.trans q⟩
theorem norm_mem {p : Nat} {f : List Term} {u : Term} (h : u ∈ norm p f) : ∃ v ∈ f, u.e = v.e := by
  rcases fold_mem f [] u h with q | ⟨v, hv, _⟩
  · exact q
  · cases hv
/-! ### a polynomial is known by its factors -/
def one (e : List Nat) : List Nat → Nat := fun x => if x = e then 1 else 0
theorem S_none {e : List Nat} : ∀ {f : List Term}, (∀ t ∈ f, t.e ≠ e) → S f (one e) = 0
  | [], _ => rfl
  | t :: f, h => by
    rw [S_cons, one, if_neg (h t (List.mem_cons_self ..)), Nat.mul_zero, Nat.zero_add]
    exact S_none fun u hu => h u (List.mem_cons_of_mem _ hu)
theorem S_head {t : Term} {f : List Term} (h : Srt (t :: f)) : S (t :: f) (one t.e) = t.c := by
  rw [S_cons, one, if_pos rfl, Nat.mul_one, show S f (one t.e) = 0 from S_none fun u hu e => bef_ne ((List.pairwise_cons.mp h).1 u hu) e.symm]
  rfl
theorem srt_tail {t : Term} {f : List Term} (h : Srt (t :: f)) : Srt f := (List.pairwise_cons.mp h).2
/-- a term ahead of all others is none of them -/
theorem S_ahead {e : List Nat} {u : Term} {g : List Term} (hs : Srt (u :: g)) (hb : before e u.e = true) : S (u :: g) (one e) = 0 := S_none fun w hw z => by
  rcases List.mem_cons.mp hw with rfl | hw
  · rw [z, bef_irr] at hb
    cases hb
  · have := bef_trans hb ((List.pairwise_cons.mp hs).1 w hw)
    rw [z, bef_irr] at this
    cases this
theorem uniq {p n : Nat} : ∀ {a b : List Term}, Srt a → Srt b → Facs p a → Facs p b → Lens n a → Lens n b → (∀ e, Eqm p (S a (one e)) (S b (one e))) → a = b
  | [], [], _, _, _, _, _, _, _ => rfl
  | [], u :: b, _, hb, _, fb, _, _, h => by
    have h1 := h u.e
    rw [S_head hb, S_nil] at h1
    have h2 := fb u (List.mem_cons_self ..)
    have := h1.symm.lt h2.2 (by omega)
    omega
  | t :: a, [], ha, _, fa, _, _, _, h => by
    have h1 := h t.e
    rw [S_head ha, S_nil] at h1
    have h2 := fa t (List.mem_cons_self ..)
    have := h1.lt h2.2 (by omega)
    omega
  | t :: a, u :: b, ha, hb, fa, fb, la, lb, h => by
    have ht := fa t (List.mem_cons_self ..)
    have hu := fb u (List.mem_cons_self ..)
    by_cases e : t.e = u.e
    · have h1 := h t.e
      rw [S_head ha, e, S_head hb] at h1
      have hc := h1.lt ht.2 hu.2
      have htu : t = u := by
        cases t
        cases u
        simp only at e hc
        rw [e, hc]
      subst htu
      have hr : a = b := uniq (srt_tail ha) (srt_tail hb) (fun w hw => fa w (List.mem_cons_of_mem _ hw)) (fun w hw => fb w (List.mem_cons_of_mem _ hw)) (fun w hw => la w (List.mem_cons_of_mem _ hw)) (fun w hw => lb w (List.mem_cons_of_mem _ hw)) fun e => by
        have := h e
        rw [S_cons, S_cons, Nat.add_comm, Nat.add_comm (t.c * one e t.e)] at this
        exact this.cancel
      rw [hr]
    · exfalso
      cases hb1 : before t.e u.e with
      | true =>
        have h1 := h t.e
        rw [S_head ha, S_ahead hb hb1] at h1
        have := h1.lt ht.2 (by omega)
        omega
      | false =>
        have hb2 : before u.e t.e = true := bef_tri (by rw [la t (List.mem_cons_self ..), lb u (List.mem_cons_self ..)]) e hb1
        have h1 := h u.e
        rw [S_head hb, S_ahead ha hb2] at h1
        have := h1.symm.lt hu.2 (by omega)
        omega
/-- norm, known by what it is -/
theorem norm_is {p n : Nat} {f g : List Term} (hp : 0 < p) (hf : Lens n f) (hs : Srt g) (hg : Facs p g) (hl : Lens n g) (h : ∀ e, Eqm p (S g (one e)) (S f (one e))) : norm p f = g :=
  uniq (norm_srt hf) hs (norm_facs hp f) hg (norm_lens hf) hl fun e => (S_norm (one e) f).trans (h e).symm
/-- two lists of terms that come to the same have one norm -/
theorem norm_congr {p n : Nat} {f g : List Term} (hp : 0 < p) (hf : Lens n f) (hg : Lens n g) (h : ∀ e, Eqm p (S f (one e)) (S g (one e))) : norm p f = norm p g :=
  norm_is hp hf (norm_srt hg) (norm_facs hp g) (norm_lens hg) fun e => (S_norm (one e) g).trans (h e).symm
/-! ### values -/
/-- what a row of powers is at a point -/
def mv (p : Nat) (x e : List Nat) : Nat := (e.zip x).foldl (fun v y => v * powMod p y.2 y.1 % p) 1
theorem fold_mul {p : Nat} : ∀ (l : List (Nat × Nat)) (c : Nat), Eqm p (l.foldl (fun v y => v * powMod p y.2 y.1 % p) c) (c * l.foldl (fun v y => v * powMod p y.2 y.1 % p) 1)
  | [], c => Eqm.of_eq (Nat.mul_one c).symm
  | y :: l, c => by
    rw [List.foldl_cons, List.foldl_cons]
    have h1 := fold_mul (p := p) l (c * powMod p y.2 y.1 % p)
    have h2 := fold_mul (p := p) l (1 * powMod p y.2 y.1 % p)
    refine h1.trans (Eqm.trans ?_ (Eqm.mul Eqm.rfl' h2.symm))
    refine Eqm.trans (((Eqm.mod p _).mul Eqm.rfl')) ?_
    refine Eqm.trans (Eqm.of_eq ?_) (Eqm.mul Eqm.rfl' ((Eqm.mod p (1 * powMod p y.2 y.1)).mul Eqm.rfl').symm)
    rw [Nat.one_mul, Nat.mul_assoc]
theorem fold_sum : ∀ (l : List Nat) (a : Nat), l.foldl (· + ·) a = a + l.sum
  | [], a => by simp
  | x :: l, a => by
    rw [List.foldl_cons, fold_sum l, List.sum_cons]
    omega
theorem value_S {p : Nat} (f : List Term) (x : List Nat) : Eqm p (Kzt1.value p f x) (S f (mv p x)) := by
  refine (Eqm.mod p _).trans ?_
  rw [fold_sum, Nat.zero_add, S]
  induction f with
  | nil => rfl
  | cons t f ih =>
    rw [List.map_cons, List.map_cons, List.sum_cons, List.sum_cons]
    exact (fold_mul _ t.c).add ih
theorem value_lt {p : Nat} (hp : 0 < p) (f : List Term) (x : List Nat) : Kzt1.value p f x < p := Nat.mod_lt _ hp
theorem value_zero {p : Nat} {f : List Term} {x : List Nat} : Kzt1.value p f x = 0 ↔ Eqm p (S f (mv p x)) 0 := by
  constructor
  · intro h
    exact (value_S f x).symm.trans (Eqm.of_eq h)
  · intro h
    have h1 : Kzt1.value p f x % p = 0 % p := (value_S f x).trans h
    rw [Kzt1.value, Nat.mod_mod, Nat.zero_mod] at h1
    exact h1
theorem value_congr {p : Nat} {f g : List Term} (x : List Nat) (h : Eqm p (S f (mv p x)) (S g (mv p x))) : Kzt1.value p f x = Kzt1.value p g x := by
  have h1 : Kzt1.value p f x % p = Kzt1.value p g x % p := (value_S f x).trans (h.trans (value_S g x).symm)
  rw [Kzt1.value, Kzt1.value, Nat.mod_mod, Nat.mod_mod] at h1
  exact h1
end Nz
namespace Nz
open Kzt1
/-! ### powers lowered -/
theorem lowered_lt {p x : Nat} (h : x < p) : lowered p x = x := if_pos h
theorem lowered_step {p x : Nat} (hp : 1 < p) (h : p ≤ x) : lowered p (x - (p - 1)) = lowered p x := by
  have e : x - 1 = (x - p) + (p - 1) := by omega
  unfold lowered
  rw [if_neg (show ¬ x < p by omega), e, Nat.add_mod_right]
  by_cases c : x - (p - 1) < p
  · rw [if_pos c, Nat.mod_eq_of_lt (by omega)]
    omega
  · rw [if_neg c, show x - (p - 1) - 1 = x - p by omega]
theorem lowered_small {p x : Nat} (hp : 1 < p) : lowered p x < p := by
  unfold lowered
  by_cases c : x < p
  · rw [if_pos c]
    exact c
  · rw [if_neg c]
    have := Nat.mod_lt (x - 1) (show 0 < p - 1 by omega)
    omega
end Nz
namespace Nz
open Kzt1
/-! ### factors kept by rows of powers: what a dict of them holds -/
abbrev Fd := List (List Nat × Nat)
def getF (d : Fd) (e : List Nat) : Option Nat := (d.find? fun x => decide (x.1 = e)).map (·.2)
def putF (d : Fd) (e : List Nat) (c : Nat) : Fd := if (d.any fun x => decide (x.1 = e)) = true then d.map (fun x => if x.1 = e then (x.1, c) else x) else d ++ [(e, c)]
def addF (p : Nat) (d : Fd) (t : List Nat) : Fd := putF d t.tail (((getF d t.tail).getD 0 + t.headD 0) % p)
def fac (p : Nat) (T : List (List Nat)) : Fd := T.foldl (addF p) []
def tf (x : List Nat × Nat) : Term := ⟨x.2, x.1⟩
def Keys1 (d : Fd) : Prop := (d.map (·.1)).Nodup
theorem fac_snoc (p : Nat) (T : List (List Nat)) (t : List Nat) : fac p (T ++ [t]) = addF p (fac p T) t := by
  rw [fac, List.foldl_append]
  rfl
theorem any_iff {d : Fd} {e : List Nat} : (d.any fun x => decide (x.1 = e)) = true ↔ e ∈ d.map (·.1) := by
  rw [List.any_eq_true, List.mem_map]
  constructor
  · rintro ⟨x, hx, h⟩
    exact ⟨x, hx, of_decide_eq_true h⟩
  · rintro ⟨x, hx, h⟩
    exact ⟨x, hx, decide_eq_true h⟩
theorem getF_cons (x : List Nat × Nat) (d : Fd) (e : List Nat) : getF (x :: d) e = if x.1 = e then some x.2 else getF d e := by
  rw [getF, List.find?_cons]
  by_cases h : x.1 = e
  · rw [decide_eq_true h, if_pos h]
    rfl
  · rw [decide_eq_false h, if_neg h]
    rfl
theorem getF_none {e : List Nat} : ∀ {d : Fd}, e ∉ d.map (·.1) → getF d e = none
  | [], _ => rfl
  | x :: d, h => by
    rw [List.map_cons, List.mem_cons, not_or] at h
    rw [getF_cons, if_neg (fun z => h.1 z.symm)]
    exact getF_none h.2
theorem getF_app (e : List Nat) (c : Nat) : ∀ (d : Fd) (j : List Nat), e ∉ d.map (·.1) → getF (d ++ [(e, c)]) j = if j = e then some c else getF d j
  | [], j, _ => by
    rw [List.nil_append, getF_cons]
    by_cases h : j = e
    · rw [if_pos h, if_pos h.symm]
    · rw [if_neg h, if_neg (fun z => h z.symm)]
  | x :: d, j, h => by
    rw [List.map_cons, List.mem_cons, not_or] at h
    rw [List.cons_append, getF_cons, getF_cons, getF_app e c d j h.2]
    by_cases hx : x.1 = j
    · rw [if_pos hx, if_pos hx, if_neg (fun z : j = e => h.1 (z.symm.trans hx.symm))]
    · rw [if_neg hx, if_neg hx]
theorem getF_set (e : List Nat) (c : Nat) : ∀ (d : Fd) (j : List Nat), e ∈ d.map (·.1) → getF (d.map fun x => if x.1 = e then (x.1, c) else x) j = if j = e then some c else getF d j
  | [], _, h => by cases h
  | x :: d, j, h => by
    have hother : ∀ d : Fd, j ≠ e → getF (d.map fun x => if x.1 = e then (x.1, c) else x) j = getF d j := fun d hj => by
      induction d with
      | nil => rfl
      | cons y d ih =>
        rw [List.map_cons, getF_cons, getF_cons, ih]
        by_cases hy : y.1 = e
        · have hyj : y.1 ≠ j := fun z => hj (z.symm.trans hy)
          rw [if_pos hy, if_neg hyj, if_neg hyj]
        · rw [if_neg hy]
    by_cases hj : j = e
    · subst hj
      rw [if_pos rfl, List.map_cons, getF_cons]
      by_cases hx : x.1 = j
      · rw [if_pos hx]
        exact if_pos hx
      · rw [if_neg hx, if_neg hx]
        rw [List.map_cons, List.mem_cons] at h
        rw [getF_set j c d j (h.resolve_left fun z => hx z.symm), if_pos rfl]
    · rw [if_neg hj]
      exact hother (x :: d) hj
theorem getF_put (d : Fd) (e j : List Nat) (c : Nat) : getF (putF d e c) j = if j = e then some c else getF d j := by
  unfold putF
  by_cases h : (d.any fun x => decide (x.1 = e)) = true
  · rw [if_pos h]
    exact getF_set e c d j (any_iff.mp h)
  · rw [if_neg h]
    exact getF_app e c d j fun z => h (any_iff.mpr z)
theorem set_keys (e : List Nat) (c : Nat) (d : Fd) : (d.map fun x => if x.1 = e then (x.1, c) else x).map (·.1) = d.map (·.1) := by
  rw [List.map_map]
  apply List.map_congr_left
  intro x _
  show (if x.1 = e then (x.1, c) else x).1 = x.1
  split <;> rfl
theorem put_keys {d : Fd} {e : List Nat} {c : Nat} {j : List Nat} (h : j ∈ (putF d e c).map (·.1)) : j = e ∨ j ∈ d.map (·.1) := by
  unfold putF at h
  split at h
  · rw [set_keys] at h
    exact .inr h
  · rw [List.map_append, List.mem_append] at h
    rcases h with h | h
    · exact .inr h
    · exact .inl (List.mem_singleton.mp h)
theorem put_nodup {d : Fd} (e : List Nat) (c : Nat) (h : Keys1 d) : Keys1 (putF d e c) := by
  unfold Keys1 putF at *
  split
  · rw [set_keys]
    exact h
  · rename_i hn
    rw [List.map_append, List.nodup_append]
    refine ⟨h, List.nodup_cons.mpr ⟨by simp, List.nodup_nil⟩, fun a ha b hb => ?_⟩
    have eb : b = e := List.mem_singleton.mp hb
    subst eb
    exact fun z => hn (any_iff.mpr (z ▸ ha))
theorem put_small {d : Fd} {e : List Nat} {c p : Nat} (hc : c < p) (h : ∀ x ∈ d, x.2 < p) : ∀ x ∈ putF d e c, x.2 < p := by
  unfold putF
  split
  · intro x hx
    obtain ⟨y, hy, rfl⟩ := List.mem_map.mp hx
    split
    · exact hc
    · exact h y hy
  · intro x hx
    rcases List.mem_append.mp hx with hx | hx
    · exact h x hx
    · rw [List.mem_singleton.mp hx]
      exact hc
theorem put_len (d : Fd) (e : List Nat) (c : Nat) : (putF d e c).length ≤ d.length + 1 := by
  unfold putF
  split
  · rw [List.length_map]
    omega
  · rw [List.length_append]
    exact Nat.le_refl _
/-- what the dict comes to at a row of powers is what stands there -/
theorem S_get (e : List Nat) : ∀ {d : Fd}, Keys1 d → S (d.map tf) (one e) = (getF d e).getD 0
  | [], _ => rfl
  | x :: d, h => by
    have h1 := List.nodup_cons.mp (show (x.1 :: d.map (·.1)).Nodup from h)
    rw [List.map_cons, S_cons, getF_cons]
    show x.2 * one e x.1 + _ = _
    by_cases hx : x.1 = e
    · rw [if_pos hx, one, if_pos hx, Nat.mul_one, show S (d.map tf) (one e) = 0 from ?_]
      · rfl
      · refine S_none fun t ht z => h1.1 ?_
        obtain ⟨y, hy, rfl⟩ := List.mem_map.mp ht
        rw [hx, ← show y.1 = e from z]
        exact List.mem_map_of_mem hy
    · rw [if_neg hx, one, if_neg hx, Nat.mul_zero, Nat.zero_add]
      exact S_get e h1.2
theorem add_nodup {p : Nat} {d : Fd} (t : List Nat) (h : Keys1 d) : Keys1 (addF p d t) := put_nodup _ _ h
theorem S_add {p : Nat} {d : Fd} (t : List Nat) (e : List Nat) (h : Keys1 d) : Eqm p (S ((addF p d t).map tf) (one e)) ((tm t).c * one e (tm t).e + S (d.map tf) (one e)) := by
  rw [S_get e (add_nodup t h), S_get e h]
  show Eqm p ((getF (putF d t.tail _) e).getD 0) (t.headD 0 * one e t.tail + _)
  rw [getF_put, one]
  by_cases hx : e = t.tail
  · subst hx
    rw [if_pos rfl, if_pos rfl, Nat.mul_one, Nat.add_comm]
    exact Eqm.mod p _
  · rw [if_neg hx, if_neg (fun z => hx z.symm), Nat.mul_zero, Nat.zero_add]
    exact Eqm.rfl'
theorem fac_fold {p : Nat} (e : List Nat) : ∀ (T : List (List Nat)) (d : Fd), Keys1 d → Keys1 (T.foldl (addF p) d) ∧ Eqm p (S ((T.foldl (addF p) d).map tf) (one e)) (S (T.map tm) (one e) + S (d.map tf) (one e))
  | [], d, h => ⟨h, Eqm.of_eq (by rw [List.map_nil, S_nil, Nat.zero_add]; rfl)⟩
  | t :: T, d, h => by
    obtain ⟨h1, h2⟩ := fac_fold e T (addF p d t) (add_nodup t h)
    refine ⟨h1, h2.trans ((Eqm.add Eqm.rfl' (S_add t e h)).trans (Eqm.of_eq ?_))⟩
    rw [List.map_cons, S_cons]
    omega
theorem fac_nodup (p : Nat) (T : List (List Nat)) : Keys1 (fac p T) := (fac_fold [] T [] List.nodup_nil).1
theorem fac_S (p : Nat) (T : List (List Nat)) (e : List Nat) : Eqm p (S ((fac p T).map tf) (one e)) (S (T.map tm) (one e)) := (fac_fold e T [] List.nodup_nil).2
theorem fac_small {p : Nat} (hp : 0 < p) (T : List (List Nat)) : ∀ x ∈ fac p T, x.2 < p := by
  have h : ∀ (T : List (List Nat)) (d : Fd), (∀ x ∈ d, x.2 < p) → ∀ x ∈ T.foldl (addF p) d, x.2 < p := fun T => by
    induction T with
    | nil => exact fun d h => h
    | cons t T ih => exact fun d h => ih _ (put_small (Nat.mod_lt _ hp) h)
  exact h T [] fun x hx => by cases hx
theorem fac_keys {p n : Nat} {T : List (List Nat)} (hR : Rows n T) : ∀ x ∈ fac p T, x.1.length = n := by
  have h : ∀ (T : List (List Nat)) (d : Fd), Rows n T → (∀ j ∈ d.map (·.1), j.length = n) → ∀ j ∈ (T.foldl (addF p) d).map (·.1), j.length = n := fun T => by
    induction T with
    | nil => exact fun d _ h => h
    | cons t T ih =>
      intro d hT h
      refine ih _ hT.tail fun j hj => ?_
      rcases put_keys hj with rfl | hj
      · rw [List.length_tail, hT.head]
        rfl
      · exact h j hj
  exact fun x hx => h T [] hR (fun j hj => by cases hj) x.1 (List.mem_map_of_mem hx)
theorem fac_len (p : Nat) (T : List (List Nat)) : (fac p T).length ≤ T.length := by
  have h : ∀ (T : List (List Nat)) (d : Fd), (T.foldl (addF p) d).length ≤ d.length + T.length := fun T => by
    induction T with
    | nil => exact fun d => Nat.le_refl _
    | cons t T ih =>
      intro d
      have h1 := ih (addF p d t)
      have h2 : (addF p d t).length ≤ d.length + 1 := put_len d t.tail (((getF d t.tail).getD 0 + t.headD 0) % p)
      rw [List.length_cons]
      show (T.foldl (addF p) (addF p d t)).length ≤ _
      omega
  have := h T []
  rw [List.length_nil, Nat.zero_add] at this
  exact this
/-! ### those with factor 0 left out, in their order -/
def kept (d : Fd) : List (List Nat) := (d.filter fun x => x.2 != 0).map fun x => x.2 :: x.1
theorem S_kept (e : List Nat) : ∀ d : Fd, S ((kept d).map tm) (one e) = S (d.map tf) (one e)
  | [] => rfl
  | x :: d => by
    rw [kept, List.filter_cons, List.map_cons, S_cons]
    by_cases hx : x.2 = 0
    · rw [if_neg (by simp [hx])]
      show S ((kept d).map tm) (one e) = x.2 * one e x.1 + _
      rw [hx, Nat.zero_mul, Nat.zero_add]
      exact S_kept e d
    · rw [if_pos (by simp [hx]), List.map_cons, List.map_cons, S_cons]
      show x.2 * one e x.1 + S ((kept d).map tm) (one e) = x.2 * one e x.1 + _
      rw [S_kept e d]
theorem S_perm {f g : List Term} (v : List Nat → Nat) (h : f.Perm g) : S f v = S g v := (h.map _).sum_nat
theorem kept_mem {d : Fd} {t : List Nat} (h : t ∈ kept d) : ∃ x ∈ d, x.2 ≠ 0 ∧ t = x.2 :: x.1 := by
  obtain ⟨x, hx, rfl⟩ := List.mem_map.mp h
  obtain ⟨h1, h2⟩ := List.mem_filter.mp hx
  exact ⟨x, h1, by simpa using h2, rfl⟩
theorem kept_tails {d : Fd} (h : Keys1 d) : ((kept d).map List.tail).Nodup := by
  have e : (kept d).map List.tail = (d.filter fun x => x.2 != 0).map (·.1) := by
    rw [kept, List.map_map]
    rfl
  rw [e]
  exact List.Nodup.sublist (List.Sublist.map _ List.filter_sublist) h
/-- like terms as one, in their order: just what norm is -/
theorem joined_is {p n : Nat} {T G : List (List Nat)} (hp : 0 < p) (hR : Rows n T) (hG : G.Perm (kept (fac p T))) (hs : G.Pairwise fun a b => before b.tail a.tail = false) : G.map tm = norm p (T.map tm) ∧ Rows n G := by
  have hm : ∀ t ∈ G, ∃ x ∈ fac p T, x.2 ≠ 0 ∧ t = x.2 :: x.1 := fun t ht => kept_mem (hG.mem_iff.mp ht)
  have rG : Rows n G := fun t ht => by
    obtain ⟨x, hx, _, rfl⟩ := hm t ht
    rw [List.length_cons, fac_keys hR x hx]
  have fG : Facs p (G.map tm) := fun u hu => by
    obtain ⟨t, ht, rfl⟩ := List.mem_map.mp hu
    obtain ⟨x, hx, h0, rfl⟩ := hm t ht
    exact ⟨Nat.pos_of_ne_zero h0, fac_small hp T x hx⟩
  have nd : (G.map List.tail).Nodup := ((hG.map List.tail).nodup_iff).mpr (kept_tails (fac_nodup p T))
  have hd : G.Pairwise fun a b => a.tail ≠ b.tail := List.pairwise_map.mp nd
  have sG : Srt (G.map tm) := by
    refine List.pairwise_map.mpr ?_
    have hall := hs.and hd
    refine List.Pairwise.imp_of_mem (fun {a b} ha hb h => ?_) hall
    refine bef_tri ?_ (fun z => h.2 z.symm) h.1
    show b.tail.length = a.tail.length
    rw [List.length_tail, List.length_tail, rG a ha, rG b hb]
  refine ⟨(norm_is hp (rows_lens hR) sG fG (rows_lens rG) fun e => ?_).symm, rG⟩
  rw [S_perm (one e) (hG.map tm), S_kept]
  exact fac_S p T e
/-- the row of terms -/
theorem written_rows {n : Nat} : ∀ {G : List (List Nat)}, Rows n G → written (G.map tm) = G.flatten
  | [], _ => rfl
  | t :: G, h => by
    have ht := h.head
    cases t with
    | nil => simp at ht
    | cons c e =>
      rw [List.map_cons, written, List.flatMap_cons]
      show c :: e ++ written (G.map tm) = _
      rw [written_rows h.tail]
      rfl
end Nz
namespace Nz
open Kzt1
/-! ### rows of numbers modulo p; sums over places -/
def sumR (w : Nat) (g : Nat → Nat) : Nat := ((List.range w).map g).sum
theorem sumR_zero (g : Nat → Nat) : sumR 0 g = 0 := rfl
theorem sumR_succ (w : Nat) (g : Nat → Nat) : sumR (w + 1) g = sumR w g + g w := by
  rw [sumR, List.range_succ, List.map_append, List.sum_append]
  show _ + (g w + 0) = _
  rfl
theorem sumR_add (w : Nat) (g h : Nat → Nat) : sumR w (fun i => g i + h i) = sumR w g + sumR w h := by
  induction w with
  | zero => rfl
  | succ w ih =>
    rw [sumR_succ, sumR_succ, sumR_succ, ih]
    omega
theorem sumR_mul (w k : Nat) (g : Nat → Nat) : sumR w (fun i => k * g i) = k * sumR w g := by
  induction w with
  | zero => rfl
  | succ w ih => rw [sumR_succ, sumR_succ, ih, Nat.mul_add]
theorem sumR_congr {p w : Nat} {g h : Nat → Nat} (e : ∀ i, i < w → Eqm p (g i) (h i)) : Eqm p (sumR w g) (sumR w h) := by
  induction w with
  | zero => rfl
  | succ w ih =>
    rw [sumR_succ, sumR_succ]
    exact (ih fun i hi => e i (by omega)).add (e w (by omega))
theorem sumR_congr' {w : Nat} {g h : Nat → Nat} (e : ∀ i, i < w → g i = h i) : sumR w g = sumR w h := by
  induction w with
  | zero => rfl
  | succ w ih =>
    rw [sumR_succ, sumR_succ, ih fun i hi => e i (by omega), e w (by omega)]
theorem sumR_nil {p w : Nat} {g : Nat → Nat} (e : ∀ i, i < w → Eqm p (g i) 0) : Eqm p (sumR w g) 0 := by
  induction w with
  | zero => rfl
  | succ w ih =>
    rw [sumR_succ]
    exact ((ih fun i hi => e i (by omega)).add (e w (by omega))).trans (Eqm.of_eq rfl)
/-- one place alone counts -/
theorem sumR_one {p w q : Nat} {g : Nat → Nat} (hq : q < w) (e : ∀ i, i < w → i ≠ q → Eqm p (g i) 0) : Eqm p (sumR w g) (g q) := by
  induction w with
  | zero => omega
  | succ w ih =>
    rw [sumR_succ]
    by_cases h : q = w
    · subst h
      exact ((sumR_nil fun i hi => e i (by omega) (by omega)).add Eqm.rfl').trans (Eqm.of_eq (Nat.zero_add _))
    · exact ((ih (by omega) fun i hi hn => e i (by omega) hn).add (e w (by omega) (by omega))).trans (Eqm.of_eq (Nat.add_zero _))
/-- two places alone count -/
theorem sumR_two {p w q j : Nat} {g : Nat → Nat} (hq : q < w) (hj : j < w) (hne : q ≠ j) (e : ∀ i, i < w → i ≠ q → i ≠ j → Eqm p (g i) 0) : Eqm p (sumR w g) (g q + g j) := by
  have h1 : sumR w g = sumR w (fun i => (if i = j then 0 else g i) + (if i = j then g i else 0)) := sumR_congr' fun i _ => by
    by_cases h : i = j
    · rw [if_pos h, if_pos h, Nat.zero_add]
    · rw [if_neg h, if_neg h, Nat.add_zero]
  rw [h1, sumR_add]
  have h2 : Eqm p (sumR w fun i => if i = j then 0 else g i) (g q) := by
    refine (sumR_one (q := q) hq fun i hi hn => ?_).trans (Eqm.of_eq (if_neg hne))
    by_cases h : i = j
    · rw [if_pos h]; rfl
    · rw [if_neg h]; exact e i hi hn h
  have h3 : Eqm p (sumR w fun i => if i = j then g i else 0) (g j) := by
    refine (sumR_one (q := j) hj fun i hi hn => ?_).trans (Eqm.of_eq (if_pos rfl))
    rw [if_neg hn]; rfl
  exact h2.add h3
/-- a row with numbers ahead of each place -/
def dot (w : Nat) (c : Nat → Nat) (r : List Nat) : Nat := sumR w fun i => c i * r.getD i 0
def Null (p w : Nat) (c : Nat → Nat) (l : List (List Nat)) : Prop := ∀ r ∈ l, Eqm p (dot w c r) 0
def Low1 (p w : Nat) (r : List Nat) : Prop := r.length = w ∧ ∀ i, r.getD i 0 < p
theorem getD_map (f : Nat → Nat) (h0 : f 0 = 0) (r : List Nat) (i : Nat) : (r.map f).getD i 0 = f (r.getD i 0) := by
  rw [List.getD_eq_getElem?_getD, List.getD_eq_getElem?_getD, List.getElem?_map]
  cases r[i]? with
  | none => exact h0.symm
  | some x => rfl
theorem getD_freed {p j w : Nat} {r s : List Nat} (hr : r.length = w) (hs : s.length = w) (i : Nat) : (freed p j r s).getD i 0 = (s.getD i 0 + (p - s.getD j 0) * r.getD i 0) % p := by
  unfold freed
  simp only [List.getD_eq_getElem?_getD, List.getElem?_map]
  by_cases hi : i < w
  · have h1 : s[i]? = some s[i] := List.getElem?_eq_getElem (by omega)
    have h2 : r[i]? = some r[i] := List.getElem?_eq_getElem (by omega)
    rw [(List.getElem?_zip_eq_some (z := (s[i], r[i]))).mpr ⟨h1, h2⟩, h1, h2]
    rfl
  · have h1 : s[i]? = none := List.getElem?_eq_none (by omega)
    have h2 : r[i]? = none := List.getElem?_eq_none (by omega)
    have h3 : (s.zip r)[i]? = none := List.getElem?_eq_none (by rw [List.length_zip]; omega)
    rw [h3, h1, h2]
    show 0 = (0 + _ * 0) % p
    rw [Nat.mul_zero, Nat.zero_mod]
theorem freed_low {p j w : Nat} (hp : 0 < p) {r s : List Nat} (hr : r.length = w) (hs : s.length = w) : Low1 p w (freed p j r s) := by
  refine ⟨?_, fun i => ?_⟩
  · unfold freed
    rw [List.length_map, List.length_zip, hr, hs, Nat.min_self]
  · rw [getD_freed hr hs]
    exact Nat.mod_lt _ hp
theorem dot_freed {p j w : Nat} (c : Nat → Nat) {r s : List Nat} (hr : r.length = w) (hs : s.length = w) : Eqm p (dot w c (freed p j r s)) (dot w c s + (p - s.getD j 0) * dot w c r) := by
  unfold dot
  rw [← sumR_mul, ← sumR_add]
  refine sumR_congr fun i _ => ?_
  rw [getD_freed hr hs]
  refine (Eqm.rfl'.mul (Eqm.mod p _)).trans (Eqm.of_eq ?_)
  rw [Nat.mul_add, Nat.mul_left_comm]
theorem dot_scaled {p w v : Nat} (c : Nat → Nat) (r : List Nat) : Eqm p (dot w c (r.map fun x => x * v % p)) (v * dot w c r) := by
  unfold dot
  rw [← sumR_mul]
  refine sumR_congr fun i _ => ?_
  rw [getD_map (fun x => x * v % p) (by rw [Nat.zero_mul, Nat.zero_mod])]
  refine (Eqm.rfl'.mul (Eqm.mod p _)).trans (Eqm.of_eq ?_)
  rw [Nat.mul_comm (r.getD i 0) v, Nat.mul_left_comm]
/-! ### the inverse -/
def Prime4 (p : Nat) : Prop := p = 2 ∨ p = 3 ∨ p = 5 ∨ p = 7
theorem inv_is {p a : Nat} (hp : Prime4 p) (h0 : a ≠ 0) (h : a < p) : a * inv p a % p = 1 := by
  rcases hp with rfl | rfl | rfl | rfl
  · have : ∀ a, a < 2 → a ≠ 0 → a * inv 2 a % 2 = 1 := by decide
    exact this a h h0
  · have : ∀ a, a < 3 → a ≠ 0 → a * inv 3 a % 3 = 1 := by decide
    exact this a h h0
  · have : ∀ a, a < 5 → a ≠ 0 → a * inv 5 a % 5 = 1 := by decide
    exact this a h h0
  · have : ∀ a, a < 7 → a ≠ 0 → a * inv 7 a % 7 = 1 := by decide
    exact this a h h0
theorem Prime4.gt {p : Nat} (h : Prime4 p) : 1 < p := by
  rcases h with rfl | rfl | rfl | rfl <;> decide
/-! ### rows made simple -/
structure Simp (p w j : Nat) (l0 l : List (List Nat)) (k : List (Nat × List Nat)) : Prop where
  ll : ∀ r ∈ l, Low1 p w r
  lz : ∀ r ∈ l, ∀ c, c < j → r.getD c 0 = 0
  kl : ∀ y ∈ k, Low1 p w y.2
  kj : ∀ y ∈ k, y.1 < j
  k1 : ∀ y ∈ k, y.2.getD y.1 0 = 1
  kz : ∀ y ∈ k, ∀ c, c < y.1 → y.2.getD c 0 = 0
  ko : ∀ y ∈ k, ∀ z ∈ k, z.1 ≠ y.1 → z.2.getD y.1 0 = 0
  ku : ∀ y ∈ k, ∀ z ∈ k, y.1 = z.1 → y = z
  nl : ∀ c : Nat → Nat, Null p w c l0 ↔ (Null p w c l ∧ ∀ y ∈ k, Eqm p (dot w c y.2) 0)
  ct : k.length + l.length = l0.length
theorem mem_erase {α : Type} {l : List α} {a : Nat} {x : α} (h : l[a]? = some x) (y : α) : y ∈ l ↔ y = x ∨ y ∈ l.eraseIdx a := by
  induction l generalizing a with
  | nil => simp at h
  | cons z l ih =>
    cases a with
    | zero =>
      have e : z = x := Option.some.inj h
      subst e
      rw [List.eraseIdx_cons_zero, List.mem_cons]
    | succ a =>
      rw [List.eraseIdx_cons_succ, List.mem_cons, List.mem_cons, ih (a := a) h]
      constructor
      · rintro (h | h | h)
        · exact .inr (.inl h)
        · exact .inl h
        · exact .inr (.inr h)
      · rintro (h | h | h)
        · exact .inr (.inl h)
        · exact .inl h
        · exact .inr (.inr h)
theorem simp_step {p w j a : Nat} (hp : Prime4 p) (hj : j < w) {l0 l : List (List Nat)} {k : List (Nat × List Nat)} (I : Simp p w j l0 l k) {r : List Nat} (ha : l[a]? = some r) (hr : r.getD j 0 ≠ 0)
    {u : List Nat} (eu : u = r.map fun x => x * inv p (r.getD j 0) % p) : Simp p w (j + 1) l0 ((l.eraseIdx a).map (freed p j u)) ((k.map fun y => (y.1, freed p j u y.2)) ++ [(j, u)]) := by
  have hp1 := hp.gt
  have hp0 : 0 < p := by omega
  have hrl : r ∈ l := List.mem_of_getElem? ha
  have hrL := I.ll r hrl
  have hul : u.length = w := by rw [eu, List.length_map]; exact hrL.1
  have hud : ∀ i, u.getD i 0 = r.getD i 0 * inv p (r.getD j 0) % p := fun i => by
    rw [eu, getD_map (fun x => x * inv p (r.getD j 0) % p) (by rw [Nat.zero_mul, Nat.zero_mod])]
  have huL : Low1 p w u := ⟨hul, fun i => by rw [hud]; exact Nat.mod_lt _ hp0⟩
  have huj : u.getD j 0 = 1 := by rw [hud]; exact inv_is hp hr (hrL.2 j)
  have huz : ∀ c, c < j → u.getD c 0 = 0 := fun c hc => by rw [hud, I.lz r hrl c hc, Nat.zero_mul, Nat.zero_mod]
  have hmem := mem_erase ha
  have fz : ∀ s : List Nat, Low1 p w s → ∀ c, c < j → (freed p j u s).getD c 0 = s.getD c 0 := fun s hs c hc => by
    rw [getD_freed hul hs.1, huz c hc, Nat.mul_zero, Nat.add_zero, Nat.mod_eq_of_lt (hs.2 c)]
  have fj : ∀ s : List Nat, Low1 p w s → (freed p j u s).getD j 0 = 0 := fun s hs => by
    have := hs.2 j
    rw [getD_freed hul hs.1, huj, Nat.mul_one, show s.getD j 0 + (p - s.getD j 0) = p by omega, Nat.mod_self]
  have mk : ∀ y ∈ (k.map fun y => (y.1, freed p j u y.2)) ++ [(j, u)], (∃ z ∈ k, y = (z.1, freed p j u z.2)) ∨ y = (j, u) := fun y hy => by
    rcases List.mem_append.mp hy with h | h
    · obtain ⟨z, hz, e⟩ := List.mem_map.mp h
      exact .inl ⟨z, hz, e.symm⟩
    · exact .inr (List.mem_singleton.mp h)
  refine ⟨?_, ?_, ?_, ?_, ?_, ?_, ?_, ?_, ?_, ?_⟩
  · intro s hs
    obtain ⟨t, ht, rfl⟩ := List.mem_map.mp hs
    exact freed_low hp0 hul (I.ll t ((hmem t).mpr (.inr ht))).1
  · intro s hs c hc
    obtain ⟨t, ht, rfl⟩ := List.mem_map.mp hs
    have htl := (hmem t).mpr (.inr ht)
    rcases Nat.lt_or_ge c j with h | h
    · rw [fz t (I.ll t htl) c h]
      exact I.lz t htl c h
    · have e : c = j := by omega
      subst e
      exact fj t (I.ll t htl)
  · intro y hy
    rcases mk y hy with ⟨z, hz, rfl⟩ | rfl
    · exact freed_low hp0 hul (I.kl z hz).1
    · exact huL
  · intro y hy
    rcases mk y hy with ⟨z, hz, rfl⟩ | rfl
    · exact Nat.lt_succ_of_lt (I.kj z hz)
    · exact Nat.lt_succ_self _
  · intro y hy
    rcases mk y hy with ⟨z, hz, rfl⟩ | rfl
    · show (freed p j u z.2).getD z.1 0 = 1
      rw [fz z.2 (I.kl z hz) z.1 (I.kj z hz)]
      exact I.k1 z hz
    · exact huj
  · intro y hy c hc
    rcases mk y hy with ⟨z, hz, rfl⟩ | rfl
    · have hc' : c < z.1 := hc
      have := I.kj z hz
      show (freed p j u z.2).getD c 0 = 0
      rw [fz z.2 (I.kl z hz) c (by omega)]
      exact I.kz z hz c hc'
    · exact huz c hc
  · intro y hy z hz hne
    rcases mk y hy with ⟨y', hy', rfl⟩ | rfl
    · rcases mk z hz with ⟨z', hz', rfl⟩ | rfl
      · show (freed p j u z'.2).getD y'.1 0 = 0
        rw [fz z'.2 (I.kl z' hz') y'.1 (I.kj y' hy')]
        exact I.ko y' hy' z' hz' hne
      · exact huz y'.1 (I.kj y' hy')
    · rcases mk z hz with ⟨z', hz', rfl⟩ | rfl
      · exact fj z'.2 (I.kl z' hz')
      · exact absurd rfl hne
  · intro y hy z hz e
    rcases mk y hy with ⟨y', hy', rfl⟩ | rfl
    · rcases mk z hz with ⟨z', hz', rfl⟩ | rfl
      · have e' : y'.1 = z'.1 := e
        rw [I.ku y' hy' z' hz' e']
      · have e' : y'.1 = j := e
        have := I.kj y' hy'
        omega
    · rcases mk z hz with ⟨z', hz', rfl⟩ | rfl
      · have e' : j = z'.1 := e
        have := I.kj z' hz'
        omega
      · rfl
  · intro c
    rw [I.nl c]
    have hu0 : Eqm p (dot w c r) 0 ↔ Eqm p (dot w c u) 0 := by
      constructor
      · intro h
        rw [eu]
        exact (dot_scaled c r).trans ((Eqm.rfl'.mul h).trans (Eqm.of_eq (Nat.mul_zero _)))
      · intro h
        have h1 : Eqm p (inv p (r.getD j 0) * dot w c r) 0 := by
          rw [eu] at h
          exact (dot_scaled c r).symm.trans h
        have h2 : Eqm p (r.getD j 0 * (inv p (r.getD j 0) * dot w c r)) 0 := (Eqm.rfl'.mul h1).trans (Eqm.of_eq (Nat.mul_zero _))
        rw [← Nat.mul_assoc] at h2
        have h3 : Eqm p (r.getD j 0 * inv p (r.getD j 0)) 1 := by
          unfold Eqm
          rw [inv_is hp hr (hrL.2 j), Nat.mod_eq_of_lt hp1]
        exact (Eqm.of_eq (Nat.one_mul _).symm).trans ((h3.symm.mul Eqm.rfl').trans h2)
    have hfr : ∀ s : List Nat, Low1 p w s → Eqm p (dot w c u) 0 → (Eqm p (dot w c (freed p j u s)) 0 ↔ Eqm p (dot w c s) 0) := fun s hs hu => by
      have h1 : Eqm p (dot w c (freed p j u s)) (dot w c s) := (dot_freed c hul hs.1).trans ((Eqm.rfl'.add ((Eqm.rfl'.mul hu).trans (Eqm.of_eq (Nat.mul_zero _)))).trans (Eqm.of_eq (Nat.add_zero _)))
      exact ⟨fun h => h1.symm.trans h, fun h => h1.trans h⟩
    constructor
    · rintro ⟨h1, h2⟩
      have hu := hu0.mp (h1 r hrl)
      refine ⟨fun s hs => ?_, fun y hy => ?_⟩
      · obtain ⟨t, ht, rfl⟩ := List.mem_map.mp hs
        have htl := (hmem t).mpr (.inr ht)
        exact (hfr t (I.ll t htl) hu).mpr (h1 t htl)
      · rcases mk y hy with ⟨z, hz, rfl⟩ | rfl
        · exact (hfr z.2 (I.kl z hz) hu).mpr (h2 z hz)
        · exact hu
    · rintro ⟨h1, h2⟩
      have hu : Eqm p (dot w c u) 0 := h2 (j, u) (List.mem_append.mpr (.inr (List.mem_singleton.mpr rfl)))
      refine ⟨fun s hs => ?_, fun y hy => ?_⟩
      · rcases (hmem s).mp hs with rfl | h
        · exact hu0.mpr hu
        · exact (hfr s (I.ll s hs) hu).mp (h1 _ (List.mem_map_of_mem h))
      · exact (hfr y.2 (I.kl y hy) hu).mp (h2 (y.1, freed p j u y.2) (List.mem_append.mpr (.inl (List.mem_map_of_mem (f := fun y => (y.1, freed p j u y.2)) hy))))
  · have h1 := (List.getElem?_eq_some_iff.mp ha).1
    rw [List.length_append, List.length_map, List.length_map, List.length_eraseIdx, if_pos h1, ← I.ct]
    show k.length + 1 + (l.length - 1) = _
    omega
theorem simp_skip {p w j : Nat} {l0 l : List (List Nat)} {k : List (Nat × List Nat)} (I : Simp p w j l0 l k) (h : ∀ r ∈ l, r.getD j 0 = 0) : Simp p w (j + 1) l0 l k := by
  refine ⟨I.ll, fun r hr c hc => ?_, I.kl, fun y hy => Nat.lt_succ_of_lt (I.kj y hy), I.k1, I.kz, I.ko, I.ku, I.nl, I.ct⟩
  rcases Nat.lt_or_ge c j with h1 | h1
  · exact I.lz r hr c h1
  · rw [show c = j by omega]
    exact h r hr
/-- what is kept at the end -/
structure Kept (p w : Nat) (l0 : List (List Nat)) (k : List (Nat × List Nat)) : Prop where
  kl : ∀ y ∈ k, Low1 p w y.2
  kj : ∀ y ∈ k, y.1 < w
  k1 : ∀ y ∈ k, y.2.getD y.1 0 = 1
  kz : ∀ y ∈ k, ∀ c, c < y.1 → y.2.getD c 0 = 0
  ko : ∀ y ∈ k, ∀ z ∈ k, z.1 ≠ y.1 → z.2.getD y.1 0 = 0
  ku : ∀ y ∈ k, ∀ z ∈ k, y.1 = z.1 → y = z
  nl : ∀ c : Nat → Nat, Null p w c l0 ↔ ∀ y ∈ k, Eqm p (dot w c y.2) 0
  ct : k.length ≤ l0.length
theorem simple_kept {p w : Nat} (hp : Prime4 p) {l0 : List (List Nat)} : ∀ (i : Nat) (l : List (List Nat)) (k : List (Nat × List Nat)), i ≤ w → Simp p w (w - i) l0 l k → Kept p w l0 (simple p w i l k)
  | 0, l, k, _, I => by
    refine ⟨I.kl, I.kj, I.k1, I.kz, I.ko, I.ku, fun c => ?_, by have := I.ct; show k.length ≤ _; omega⟩
    rw [I.nl c]
    refine ⟨fun h => h.2, fun h => ⟨fun r hr => ?_, h⟩⟩
    exact sumR_nil fun j hj => Eqm.of_eq (by rw [I.lz r hr j (by omega), Nat.mul_zero])
  | i + 1, l, k, hi, I => by
    have ej : w - (i + 1) + 1 = w - i := by omega
    unfold simple
    simp only
    cases hf : l.findIdx? (fun r => r.getD (w - (i + 1)) 0 != 0) with
    | none =>
      rw [List.findIdx?_eq_none_iff] at hf
      refine simple_kept hp i l k (by omega) ?_
      rw [← ej]
      exact simp_skip I fun r hr => by
        have := hf r hr
        simpa using this
    | some a =>
      obtain ⟨ha, hb, _⟩ := List.findIdx?_eq_some_iff_getElem.mp hf
      have hg : l[a]? = some l[a] := List.getElem?_eq_getElem ha
      have e1 : l.getD a [] = l[a] := by rw [List.getD_eq_getElem?_getD, hg]; rfl
      have hne : l[a].getD (w - (i + 1)) 0 ≠ 0 := by simpa using hb
      refine simple_kept hp i _ _ (by omega) ?_
      rw [← ej, e1]
      exact simp_step hp (by omega) I hg hne rfl
theorem kept_start {p w : Nat} (hp : Prime4 p) {l : List (List Nat)} (h : ∀ r ∈ l, Low1 p w r) : Kept p w l (simple p w w l []) := by
  refine simple_kept hp w l [] (Nat.le_refl _) ⟨h, fun r _ c hc => by omega, (fun _ h => by cases h), (fun _ h => by cases h), (fun _ h => by cases h), (fun _ h => by cases h), (fun _ h => by cases h), (fun _ h => by cases h), fun c => ⟨fun h => ⟨h, fun _ h => by cases h⟩, fun h => h.1⟩, by simp⟩
end Nz
namespace Nz
open Kzt1
/-! ### the first free place -/
/-- the factors of the one that is nought: 1 at the free place, at the kept ones what makes up for it -/
def cfOf (p j : Nat) (k : List (Nat × List Nat)) (i : Nat) : Nat := if i = j then 1 else match k.find? fun z => z.1 == i with
  | some z => (p - z.2.getD j 0 % p) % p
  | none => 0
theorem find_kept {p w : Nat} {l0 : List (List Nat)} {k : List (Nat × List Nat)} (I : Kept p w l0 k) {y : Nat × List Nat} (hy : y ∈ k) : k.find? (fun z => z.1 == y.1) = some y := by
  cases h : k.find? (fun z => z.1 == y.1) with
  | none =>
    have := List.find?_eq_none.mp h y hy
    simp at this
  | some z =>
    have h1 : z.1 = y.1 := by simpa using List.find?_some h
    rw [I.ku z (List.mem_of_find?_eq_some h) y hy h1]
def Piv (k : List (Nat × List Nat)) (j : Nat) : Prop := ∃ y ∈ k, y.1 = j
theorem piv_any {k : List (Nat × List Nat)} {j : Nat} : (k.any fun y => y.1 == j) = true ↔ Piv k j := by
  rw [List.any_eq_true]
  constructor
  · rintro ⟨y, hy, e⟩
    exact ⟨y, hy, by simpa using e⟩
  · rintro ⟨y, hy, e⟩
    exact ⟨y, hy, by simpa using e⟩
theorem cf_null {p w j : Nat} {l0 : List (List Nat)} {k : List (Nat × List Nat)} (hp : Prime4 p) (I : Kept p w l0 k) (hj : j < w) (hn : ¬ Piv k j) : Null p w (cfOf p j k) l0 := by
  have hp1 := hp.gt
  rw [I.nl]
  intro y hy
  have hq := I.kj y hy
  have hne : y.1 ≠ j := fun e => hn ⟨y, hy, e⟩
  refine (sumR_two (q := y.1) (j := j) hq hj hne fun i hi h1 h2 => ?_).trans ?_
  · by_cases hp : Piv k i
    · obtain ⟨z, hz, rfl⟩ := hp
      rw [I.ko z hz y hy fun e => h1 e.symm, Nat.mul_zero]
      rfl
    · have : cfOf p j k i = 0 := by
        unfold cfOf
        rw [if_neg h2]
        cases h : k.find? (fun z => z.1 == i) with
        | none => rfl
        | some z => exact absurd ⟨z, List.mem_of_find?_eq_some h, by simpa using List.find?_some h⟩ hp
      rw [this, Nat.zero_mul]
      rfl
  · have e1 : cfOf p j k y.1 = (p - y.2.getD j 0 % p) % p := by
      unfold cfOf
      rw [if_neg hne, find_kept I hy]
    have e2 : cfOf p j k j = 1 := if_pos rfl
    have hlt := (I.kl y hy).2 j
    rw [e1, e2, I.k1 y hy, Nat.mul_one, Nat.one_mul, Nat.mod_eq_of_lt hlt]
    refine ((Eqm.mod p _).add Eqm.rfl').trans ?_
    unfold Eqm
    rw [show p - y.2.getD j 0 + y.2.getD j 0 = p by omega, Nat.mod_self, Nat.zero_mod]
/-- behind the free place all its factors are 0 -/
theorem cf_above {p w j : Nat} {l0 : List (List Nat)} {k : List (Nat × List Nat)} (I : Kept p w l0 k) {i : Nat} (hi : j < i) : cfOf p j k i = 0 := by
  unfold cfOf
  rw [if_neg (by omega)]
  cases h : k.find? (fun z => z.1 == i) with
  | none => rfl
  | some z =>
    have h1 : z.1 = i := by simpa using List.find?_some h
    have := I.kz z (List.mem_of_find?_eq_some h) j (by omega)
    show (p - z.2.getD j 0 % p) % p = 0
    rw [this, Nat.zero_mod, Nat.sub_zero, Nat.mod_self]
/-- where all places ahead are kept ones, none but 0 is nought -/
theorem null_zero {p w j : Nat} {l0 : List (List Nat)} {k : List (Nat × List Nat)} (I : Kept p w l0 k) (hj : j ≤ w) (hall : ∀ i, i < j → Piv k i) {c : Nat → Nat} (hc : Null p w c l0) (hz : ∀ i, j ≤ i → i < w → Eqm p (c i) 0) : ∀ i, i < w → Eqm p (c i) 0 := by
  intro i hi
  rcases Nat.lt_or_ge i j with h | h
  · obtain ⟨y, hy, rfl⟩ := hall i h
    have h1 := (I.nl c).mp hc y hy
    have h2 : Eqm p (dot w c y.2) (c y.1 * y.2.getD y.1 0) := sumR_one (q := y.1) hi fun q hq hne => by
      rcases Nat.lt_or_ge q j with h3 | h3
      · obtain ⟨z, hz, rfl⟩ := hall q h3
        rw [I.ko z hz y hy fun e => hne e.symm, Nat.mul_zero]
        rfl
      · exact ((hz q h3 hq).mul Eqm.rfl').trans (Eqm.of_eq (Nat.zero_mul _))
    rw [I.k1 y hy, Nat.mul_one] at h2
    exact h2.symm.trans h1
  · exact hz i h hi
/-! ### polynomials by places -/
/-- the polynomial with the factors c over the rows of powers ms -/
def polyOf (ms : List (List Nat)) (c : Nat → Nat) : List Term := ms.zipIdx.map fun y => ⟨c y.2, y.1⟩
theorem zip_range {α : Type} (ms : List (List Nat)) (f : List Nat × Nat → α) : ∀ s : Nat, (ms.zipIdx s).map f = (List.range ms.length).map fun i => f (ms.getD i [], s + i) := by
  induction ms with
  | nil => intro s; rfl
  | cons e ms ih =>
    intro s
    rw [List.zipIdx_cons, List.map_cons, ih (s + 1), List.length_cons, List.range_succ_eq_map, List.map_cons, List.map_map]
    congr 1
    apply List.map_congr_left
    intro i _
    show f (ms.getD i [], s + 1 + i) = f ((e :: ms).getD (i + 1) [], s + (i + 1))
    rw [List.getD_cons_succ, show s + 1 + i = s + (i + 1) by omega]
theorem S_polyOf (ms : List (List Nat)) (c : Nat → Nat) (v : List Nat → Nat) : S (polyOf ms c) v = sumR ms.length fun i => c i * v (ms.getD i []) := by
  unfold S polyOf sumR
  rw [List.map_map, zip_range]
  congr 1
  apply List.map_congr_left
  intro i _
  show c (0 + i) * v (ms.getD i []) = _
  rw [Nat.zero_add]
theorem S_split {ms : List (List Nat)} (hn : ms.Nodup) (v : List Nat → Nat) : ∀ h : List Term, (∀ t ∈ h, t.e ∈ ms) → S h v = sumR ms.length fun i => S h (one (ms.getD i [])) * v (ms.getD i [])
  | [], _ => by
    rw [S_nil]
    have : ∀ w, sumR w (fun i => S [] (one (ms.getD i [])) * v (ms.getD i [])) = 0 := fun w => by
      induction w with
      | zero => rfl
      | succ w ih => rw [sumR_succ, ih, S_nil, Nat.zero_mul]
    exact (this _).symm
  | t :: h, hm => by
    have ih := S_split hn v h fun u hu => hm u (List.mem_cons_of_mem _ hu)
    obtain ⟨q, hq⟩ := List.getElem?_of_mem (hm t (List.mem_cons_self ..))
    have hql := (List.getElem?_eq_some_iff.mp hq).1
    have e1 : sumR ms.length (fun i => S (t :: h) (one (ms.getD i [])) * v (ms.getD i [])) = sumR ms.length (fun i => t.c * one (ms.getD i []) t.e * v (ms.getD i []) + S h (one (ms.getD i [])) * v (ms.getD i [])) := sumR_congr' fun i _ => by
      rw [S_cons, Nat.add_mul]
    have hd : ms.getD q [] = t.e := by rw [List.getD_eq_getElem?_getD, hq]; rfl
    have e2 : sumR ms.length (fun i => t.c * one (ms.getD i []) t.e * v (ms.getD i [])) = t.c * v t.e := by
      have z := sumR_one (p := 0) (w := ms.length) (q := q) (g := fun i => t.c * one (ms.getD i []) t.e * v (ms.getD i [])) hql fun i hi hne => Eqm.of_eq (by
        have hne2 : ¬ t.e = ms.getD i [] := fun e => hne (by
          have h1 : ms[i]? = some ms[i] := List.getElem?_eq_getElem hi
          have h2 : ms.getD i [] = ms[i] := by rw [List.getD_eq_getElem?_getD, h1]; rfl
          rw [h2] at e
          have h3 : ms[q] = t.e := (List.getElem?_eq_some_iff.mp hq).2
          exact (List.getElem_inj hn).mp (h3.trans e).symm)
        show t.c * one (ms.getD i []) t.e * v (ms.getD i []) = 0
        rw [one, if_neg hne2, Nat.mul_zero, Nat.zero_mul])
      unfold Eqm at z
      rw [Nat.mod_zero, Nat.mod_zero] at z
      rw [z]
      show t.c * one (ms.getD q []) t.e * v (ms.getD q []) = _
      rw [hd, one, if_pos rfl, Nat.mul_one]
    rw [S_cons, e1, sumR_add, e2, ih]
theorem row_get {p n : Nat} (ms : List (List Nat)) (x i : Nat) (hi : i < ms.length) : Eqm p ((row p n ms x).getD i 0) (mv p (coords p n x) (ms.getD i [])) := by
  unfold row
  have h1 : ms[i]? = some ms[i] := List.getElem?_eq_getElem hi
  rw [List.getD_eq_getElem?_getD, List.getElem?_map, List.getD_eq_getElem?_getD, h1]
  show Eqm p (Kzt1.value p [⟨1, ms[i]⟩] (coords p n x)) (mv p (coords p n x) ms[i])
  refine (value_S _ _).trans (Eqm.of_eq ?_)
  rw [S_cons, S_nil, Nat.one_mul, Nat.add_zero]
theorem row_low {p n : Nat} (hp : 0 < p) (ms : List (List Nat)) (x : Nat) : Low1 p ms.length (row p n ms x) := by
  refine ⟨by rw [row, List.length_map], fun i => ?_⟩
  rw [List.getD_eq_getElem?_getD, row, List.getElem?_map]
  cases ms[i]? with
  | none => exact hp
  | some e => exact value_lt hp _ _
theorem dot_row {p n : Nat} (ms : List (List Nat)) (c : Nat → Nat) (x : Nat) : Eqm p (dot ms.length c (row p n ms x)) (sumR ms.length fun i => c i * mv p (coords p n x) (ms.getD i [])) :=
  sumR_congr fun i hi => Eqm.rfl'.mul (row_get ms x i hi)
/-- zero on the set -/
def Zero (p n : Nat) (s : List Nat) (f : List Term) : Prop := ∀ x ∈ s, Eqm p (S f (mv p (coords p n x))) 0
theorem zero_at1 {p n : Nat} {s : List Nat} {f : List Term} : Zero p n s f ↔ ∀ x ∈ s, at1 p n f x = 0 := by
  constructor
  · intro h x hx
    exact value_zero.mpr (h x hx)
  · intro h x hx
    exact value_zero.mp (h x hx)
theorem null_poly {p n : Nat} {ms : List (List Nat)} {s : List Nat} (c : Nat → Nat) : Null p ms.length c (s.map (row p n ms)) ↔ Zero p n s (polyOf ms c) := by
  constructor
  · intro h x hx
    rw [S_polyOf]
    exact (dot_row ms c x).symm.trans (h _ (List.mem_map_of_mem hx))
  · intro h r hr
    obtain ⟨x, hx, rfl⟩ := List.mem_map.mp hr
    have := h x hx
    rw [S_polyOf] at this
    exact (dot_row ms c x).trans this
/-! ### nullOf -/
theorem nullOf_is (p n : Nat) (ms : List (List Nat)) (s : List Nat) : nullOf p n ms s = match (List.range ms.length).find? (fun j => !((simple p ms.length ms.length (s.map (row p n ms)) []).any fun y => y.1 == j)) with
    | none => none
    | some j => some (norm p (polyOf ms (cfOf p j (simple p ms.length ms.length (s.map (row p n ms)) [])))) := rfl
/-- a proper polynomial, each unknown less than p times -/
structure Prop1 (p n : Nat) (f : List Term) : Prop where
  srt : Srt f
  facs : Facs p f
  lens : Lens n f
  small : ∀ t ∈ f, ∀ y ∈ t.e, y < p
theorem Prop1.nil (p n : Nat) : Prop1 p n [] := ⟨List.Pairwise.nil, (fun _ h => by cases h), (fun _ h => by cases h), (fun _ h => by cases h)⟩
theorem prop_zero {p n : Nat} {f : List Term} (hf : Prop1 p n f) (h : ∀ e, Eqm p (S f (one e)) 0) : f = [] :=
  uniq hf.srt List.Pairwise.nil hf.facs (fun _ h => by cases h) hf.lens (fun _ h => by cases h) fun e => (h e).trans (Eqm.of_eq (S_nil _).symm)
/-- rows of powers in their order, all of n powers below p -/
structure Ord (p n : Nat) (ms : List (List Nat)) : Prop where
  srt : ms.Pairwise fun a b => before a b = true
  lens : ∀ e ∈ ms, e.length = n
  small : ∀ e ∈ ms, ∀ y ∈ e, y < p
theorem Ord.nodup {p n : Nat} {ms : List (List Nat)} (h : Ord p n ms) : ms.Nodup := h.srt.imp fun hb e => bef_ne hb e
theorem Ord.lt {p n : Nat} {ms : List (List Nat)} (h : Ord p n ms) {i j : Nat} {a b : List Nat} (ha : ms[i]? = some a) (hb : ms[j]? = some b) : before a b = true ↔ i < j := by
  obtain ⟨h1, e1⟩ := List.getElem?_eq_some_iff.mp ha
  obtain ⟨h2, e2⟩ := List.getElem?_eq_some_iff.mp hb
  have key : ∀ i j (hi : i < ms.length) (hj : j < ms.length), i < j → before ms[i] ms[j] = true := fun i j hi hj hij => List.pairwise_iff_getElem.mp h.srt i j hi hj hij
  constructor
  · intro hbf
    rcases Nat.lt_trichotomy i j with q | q | q
    · exact q
    · subst q
      rw [← e1, ← e2, bef_irr] at hbf
      cases hbf
    · have := key j i h2 h1 q
      rw [e1, e2] at this
      rw [bef_asym this] at hbf
      cases hbf
  · intro q
    have := key i j h1 h2 q
    rw [e1, e2] at this
    exact this
theorem polyOf_mem {ms : List (List Nat)} {c : Nat → Nat} {t : Term} (h : t ∈ polyOf ms c) : t.e ∈ ms := by
  unfold polyOf at h
  obtain ⟨y, hy, rfl⟩ := List.mem_map.mp h
  exact List.fst_mem_of_mem_zipIdx hy
theorem polyOf_prop {p n : Nat} (hp : 0 < p) {ms : List (List Nat)} (o : Ord p n ms) (c : Nat → Nat) : Prop1 p n (norm p (polyOf ms c)) := by
  have hl : Lens n (polyOf ms c) := fun t ht => o.lens _ (polyOf_mem ht)
  refine ⟨norm_srt hl, norm_facs hp _, norm_lens hl, fun t ht y hy => ?_⟩
  obtain ⟨v, hv, e⟩ := norm_mem ht
  rw [e] at hy
  exact o.small _ (polyOf_mem hv) y hy
/-- the factor at a place -/
theorem S_at {ms : List (List Nat)} (hn : ms.Nodup) (c : Nat → Nat) {i : Nat} {e : List Nat} (h : ms[i]? = some e) : S (polyOf ms c) (one e) = c i := by
  obtain ⟨hi, he⟩ := List.getElem?_eq_some_iff.mp h
  rw [S_polyOf]
  have z := sumR_one (p := 0) (w := ms.length) (q := i) (g := fun q => c q * one e (ms.getD q [])) hi fun q hq hne => Eqm.of_eq (by
    have h1 : ms[q]? = some ms[q] := List.getElem?_eq_getElem hq
    have h2 : ms.getD q [] = ms[q] := by rw [List.getD_eq_getElem?_getD, h1]; rfl
    show c q * one e (ms.getD q []) = 0
    rw [h2, one, if_neg fun z => hne ((List.getElem_inj hn).mp (z.trans he.symm)), Nat.mul_zero])
  unfold Eqm at z
  rw [Nat.mod_zero, Nat.mod_zero] at z
  rw [z]
  have h2 : ms.getD i [] = e := by rw [List.getD_eq_getElem?_getD, h]; rfl
  show c i * one e (ms.getD i []) = c i
  rw [h2, one, if_pos rfl, Nat.mul_one]
/-- what makes a polynomial the one of a set -/
structure Least (p n : Nat) (s m : List Nat) (g : List Term) : Prop where
  prop : Prop1 p n g
  last : ∃ r, g = r ++ [⟨1, m⟩]
  zero : Zero p n s g
  least : ∀ h, Prop1 p n h → (∀ t ∈ h, before t.e m = true) → Zero p n s h → h = []
theorem Least.mem {p n : Nat} {s m : List Nat} {g : List Term} (L : Least p n s m g) : (⟨1, m⟩ : Term) ∈ g := by
  obtain ⟨r, e⟩ := L.last
  rw [e]
  exact List.mem_append.mpr (.inr (List.mem_singleton.mpr rfl))
theorem Least.ahead {p n : Nat} {s m : List Nat} {g : List Term} (L : Least p n s m g) {t : Term} (ht : t ∈ g) : t = ⟨1, m⟩ ∨ before t.e m = true := by
  obtain ⟨r, e⟩ := L.last
  have hs := L.prop.srt
  rw [e] at hs ht
  rcases List.mem_append.mp ht with h | h
  · exact .inr ((List.pairwise_append.mp hs).2.2 t h ⟨1, m⟩ (List.mem_singleton.mpr rfl))
  · exact .inl (List.mem_singleton.mp h)
theorem Least.ne {p n : Nat} {s m : List Nat} {g : List Term} (L : Least p n s m g) : g ≠ [] := fun e => by
  have := L.mem
  rw [e] at this
  cases this
end Nz
namespace Nz
open Kzt1
theorem S_mem : ∀ {f : List Term} {t : Term}, Srt f → t ∈ f → S f (one t.e) = t.c
  | [], t, _, h => by cases h
  | u :: f, t, hs, h => by
    rcases List.mem_cons.mp h with rfl | h
    · exact S_head hs
    · have hb := (List.pairwise_cons.mp hs).1 t h
      rw [S_cons, one, if_neg (bef_ne hb), Nat.mul_zero, Nat.zero_add]
      exact S_mem (srt_tail hs) h
theorem S_has {f : List Term} {e : List Nat} (h : S f (one e) ≠ 0) : ∃ t ∈ f, t.e = e := by
  apply Classical.byContradiction
  intro hn
  exact h (S_none fun t ht he => hn ⟨t, ht, he⟩)
theorem last_of {f : List Term} {t : Term} (hs : Srt f) (ht : t ∈ f) (h : ∀ u ∈ f, u = t ∨ before u.e t.e = true) : ∃ r, f = r ++ [t] := by
  obtain ⟨r, q, e⟩ := List.append_of_mem ht
  refine ⟨r, ?_⟩
  cases q with
  | nil => exact e
  | cons u q =>
    exfalso
    rw [e] at hs
    have h1 : before t.e u.e = true := (List.pairwise_cons.mp (List.pairwise_append.mp hs).2.1).1 u (List.mem_cons_self ..)
    rcases h u (by rw [e]; simp) with rfl | h2
    · rw [bef_irr] at h1
      cases h1
    · rw [bef_asym h1] at h2
      cases h2
/-! ### there is just one -/
def negT (p : Nat) (f : List Term) : List Term := f.map fun t => ⟨p - t.c, t.e⟩
theorem S_neg {p : Nat} (v : List Nat → Nat) : ∀ {f : List Term}, Facs p f → Eqm p (S (negT p f) v + S f v) 0
  | [], _ => rfl
  | t :: f, h => by
    have ht := h t (List.mem_cons_self ..)
    have ih := S_neg v (f := f) fun u hu => h u (List.mem_cons_of_mem _ hu)
    have e : S (negT p (t :: f)) v + S (t :: f) v = p * v t.e + (S (negT p f) v + S f v) := by
      show S (⟨p - t.c, t.e⟩ :: negT p f) v + S (t :: f) v = _
      rw [S_cons, S_cons]
      show (p - t.c) * v t.e + S (negT p f) v + (t.c * v t.e + S f v) = _
      have : (p - t.c) * v t.e + t.c * v t.e = p * v t.e := by
        rw [← Nat.add_mul]
        congr 1
        omega
      omega
    rw [e]
    refine (Eqm.add (Eqm.zero (Nat.mul_mod_right p _)) ih).trans rfl
theorem least_unique {p n : Nat} (hp : 0 < p) {s m m' : List Nat} {g g' : List Term} (L : Least p n s m g) (L' : Least p n s m' g') : m = m' ∧ g = g' := by
  have key : ∀ {m m' : List Nat} {g g' : List Term}, Least p n s m g → Least p n s m' g' → before m m' = true → False := fun {m m' g g'} L L' hb => by
    refine L.ne (L'.least g L.prop (fun t ht => ?_) L.zero)
    rcases L.ahead ht with rfl | h
    · exact hb
    · exact bef_trans h hb
  have em : m = m' := by
    apply Classical.byContradiction
    intro hne
    have l1 := L.prop.lens _ L.mem
    have l2 := L'.prop.lens _ L'.mem
    cases hb : before m m' with
    | true => exact key L L' hb
    | false => exact key L' L (bef_tri (l1.trans l2.symm) hne hb)
  subst em
  refine ⟨rfl, ?_⟩
  obtain ⟨r, e⟩ := L.last
  obtain ⟨r', e'⟩ := L'.last
  have hr : ∀ t ∈ r, t ∈ g := fun t ht => by rw [e]; exact List.mem_append.mpr (.inl ht)
  have hr' : ∀ t ∈ r', t ∈ g' := fun t ht => by rw [e']; exact List.mem_append.mpr (.inl ht)
  have hbr : ∀ t ∈ r, before t.e m = true := fun t ht => by
    have hs := L.prop.srt
    rw [e] at hs
    exact (List.pairwise_append.mp hs).2.2 t ht ⟨1, m⟩ (List.mem_singleton.mpr rfl)
  have hbr' : ∀ t ∈ r', before t.e m = true := fun t ht => by
    have hs := L'.prop.srt
    rw [e'] at hs
    exact (List.pairwise_append.mp hs).2.2 t ht ⟨1, m⟩ (List.mem_singleton.mpr rfl)
  have hf' : Facs p r' := fun t ht => L'.prop.facs t (hr' t ht)
  have hme : ∀ t ∈ r ++ negT p r', (∃ u ∈ g, t.e = u.e ∧ before u.e m = true) ∨ ∃ u ∈ g', t.e = u.e ∧ before u.e m = true := fun t ht => by
    rcases List.mem_append.mp ht with h | h
    · exact .inl ⟨t, hr t h, rfl, hbr t h⟩
    · obtain ⟨u, hu, rfl⟩ := List.mem_map.mp h
      exact .inr ⟨u, hr' u hu, rfl, hbr' u hu⟩
  have hL : Lens n (r ++ negT p r') := fun t ht => by
    rcases hme t ht with ⟨u, hu, q, _⟩ | ⟨u, hu, q, _⟩
    · rw [q]; exact L.prop.lens u hu
    · rw [q]; exact L'.prop.lens u hu
  have hS : ∀ v, Eqm p (S (norm p (r ++ negT p r')) v + S g' v) (S g v) := fun v => by
    refine ((S_norm v _).add Eqm.rfl').trans ?_
    rw [S_app, e, e', S_app, S_app]
    have h1 := S_neg v hf'
    have h2 : S r v + S (negT p r') v + (S r' v + S [⟨1, m⟩] v) = (S (negT p r') v + S r' v) + (S r v + S [⟨1, m⟩] v) := by omega
    rw [h2]
    exact (h1.add Eqm.rfl').trans (Eqm.of_eq (Nat.zero_add _))
  have h0 : norm p (r ++ negT p r') = [] := by
    refine L.least _ ⟨norm_srt hL, norm_facs hp _, norm_lens hL, fun t ht y hy => ?_⟩ (fun t ht => ?_) fun x hx => ?_
    · obtain ⟨u, hu, q⟩ := norm_mem ht
      rw [q] at hy
      rcases hme u hu with ⟨w, hw, q, _⟩ | ⟨w, hw, q, _⟩
      · rw [q] at hy; exact L.prop.small w hw y hy
      · rw [q] at hy; exact L'.prop.small w hw y hy
    · obtain ⟨u, hu, q⟩ := norm_mem ht
      rw [q]
      rcases hme u hu with ⟨w, hw, q, hb⟩ | ⟨w, hw, q, hb⟩
      · rw [q]; exact hb
      · rw [q]; exact hb
    · have h1 := hS (mv p (coords p n x))
      have h2 : Eqm p (S (norm p (r ++ negT p r')) (mv p (coords p n x)) + 0) (S (norm p (r ++ negT p r')) (mv p (coords p n x)) + S g' (mv p (coords p n x))) := Eqm.rfl'.add (L'.zero x hx).symm
      exact (Eqm.of_eq (Nat.add_zero _).symm).trans (h2.trans (h1.trans (L.zero x hx)))
  refine uniq L.prop.srt L'.prop.srt L.prop.facs L'.prop.facs L.prop.lens L'.prop.lens fun e => ?_
  have h1 := hS (one e)
  rw [h0, S_nil, Nat.zero_add] at h1
  exact h1.symm
/-! ### nullOf finds it -/
theorem prop_split {p n : Nat} {ms : List (List Nat)} {s : List Nat} (o : Ord p n ms) {h : List Term} (hm : ∀ t ∈ h, t.e ∈ ms) (hz : Zero p n s h) : Null p ms.length (fun i => S h (one (ms.getD i []))) (s.map (row p n ms)) := by
  rw [null_poly]
  intro x hx
  rw [S_polyOf, ← S_split o.nodup _ h hm]
  exact hz x hx
theorem nullOf_none {p n : Nat} {ms : List (List Nat)} {s : List Nat} (hp : Prime4 p) (o : Ord p n ms) (h0 : nullOf p n ms s = none) {h : List Term} (hh : Prop1 p n h) (hm : ∀ t ∈ h, t.e ∈ ms) (hz : Zero p n s h) : h = [] := by
  have hp0 : 0 < p := by have := hp.gt; omega
  rw [nullOf_is] at h0
  have I := kept_start (l := s.map (row p n ms)) hp fun r hr => by
    obtain ⟨x, _, rfl⟩ := List.mem_map.mp hr
    exact row_low (n := n) hp0 ms x
  generalize simple p ms.length ms.length (s.map (row p n ms)) [] = k at h0 I
  have hall : ∀ i, i < ms.length → Piv k i := fun i hi => by
    cases hf : (List.range ms.length).find? (fun j => !(k.any fun y => y.1 == j)) with
    | none =>
      have := List.find?_eq_none.mp hf i (List.mem_range.mpr hi)
      apply piv_any.mp
      simpa using this
    | some j =>
      rw [hf] at h0
      cases h0
  have hz1 := null_zero I (Nat.le_refl _) hall (prop_split o hm hz) fun i h1 h2 => by omega
  refine prop_zero hh fun e => ?_
  by_cases he : ∃ t ∈ h, t.e = e
  · obtain ⟨t, ht, rfl⟩ := he
    obtain ⟨i, hi⟩ := List.getElem?_of_mem (hm t ht)
    have := hz1 i (List.getElem?_eq_some_iff.mp hi).1
    have hd : ms.getD i [] = t.e := by rw [List.getD_eq_getElem?_getD, hi]; rfl
    simp only [hd] at this
    exact this
  · exact Eqm.of_eq (S_none fun t ht q => he ⟨t, ht, q⟩)
theorem nullOf_some {p n : Nat} {ms : List (List Nat)} {s : List Nat} {f : List Term} (hp : Prime4 p) (o : Ord p n ms) (down : ∀ e m, m ∈ ms → e.length = n → (∀ y ∈ e, y < p) → before e m = true → e ∈ ms) (h0 : nullOf p n ms s = some f) : ∃ m ∈ ms, Least p n s m f := by
  have hp1 := hp.gt
  have hp0 : 0 < p := by omega
  rw [nullOf_is] at h0
  have I := kept_start (l := s.map (row p n ms)) hp fun r hr => by
    obtain ⟨x, _, rfl⟩ := List.mem_map.mp hr
    exact row_low (n := n) hp0 ms x
  generalize simple p ms.length ms.length (s.map (row p n ms)) [] = k at h0 I
  cases hf : (List.range ms.length).find? (fun j => !(k.any fun y => y.1 == j)) with
  | none =>
    rw [hf] at h0
    cases h0
  | some j =>
    rw [hf] at h0
    have ef : f = norm p (polyOf ms (cfOf p j k)) := (Option.some.inj h0).symm
    have hj : j < ms.length := List.mem_range.mp (List.mem_of_find?_eq_some hf)
    have hnp : ¬ Piv k j := fun h => by
      have := List.find?_some hf
      rw [piv_any.mpr h] at this
      cases this
    have hall : ∀ i, i < j → Piv k i := fun i hi => by
      rw [List.find?_range_eq_some] at hf
      have := hf.2.2 i hi
      apply piv_any.mp
      simpa using this
    have hP : Prop1 p n f := by rw [ef]; exact polyOf_prop hp0 o _
    have hmj : ms[j]? = some ms[j] := List.getElem?_eq_getElem hj
    have hmem : ms[j] ∈ ms := List.getElem_mem hj
    have hS : ∀ e, Eqm p (S f (one e)) (S (polyOf ms (cfOf p j k)) (one e)) := fun e => by rw [ef]; exact S_norm _ _
    have hfe : ∀ t ∈ f, ∃ i, ms[i]? = some t.e ∧ i ≤ j := fun t ht => by
      obtain ⟨v, hv, e⟩ := norm_mem (ef ▸ ht)
      obtain ⟨i, hi⟩ := List.getElem?_of_mem (polyOf_mem hv)
      rw [← e] at hi
      refine ⟨i, hi, ?_⟩
      apply Classical.byContradiction
      intro hlt
      have h1 := hS t.e
      rw [S_mem hP.srt ht, S_at o.nodup _ hi, cf_above I (by omega)] at h1
      have h2 := hP.facs t ht
      have := h1.lt h2.2 hp0
      omega
    have hjm : (⟨1, ms[j]⟩ : Term) ∈ f := by
      have h1 := hS ms[j]
      rw [S_at o.nodup _ hmj, show cfOf p j k j = 1 from if_pos rfl] at h1
      obtain ⟨t, ht, e⟩ := S_has (f := f) (e := ms[j]) (fun z => by
        rw [z] at h1
        have := h1.lt hp0 hp1
        omega)
      rw [← e, S_mem hP.srt ht] at h1
      have h2 := hP.facs t ht
      have hc := h1.lt h2.2 hp1
      have : t = ⟨1, ms[j]⟩ := by
        cases t
        simp only at hc e
        rw [hc, e]
      rw [← this]
      exact ht
    refine ⟨ms[j], hmem, hP, last_of hP.srt hjm fun u hu => ?_, fun x hx => ?_, fun h hh hb hz => ?_⟩
    · obtain ⟨i, hi, hij⟩ := hfe u hu
      rcases Nat.lt_or_ge i j with q | q
      · exact .inr ((o.lt hi hmj).mpr q)
      · have e : i = j := by omega
        subst e
        left
        have e1 : u.e = ms[i] := (Option.some.inj (hmj.symm.trans hi)).symm
        have h3 := S_mem hP.srt hu
        rw [e1, S_mem hP.srt hjm] at h3
        cases u
        simp only at e1 h3
        rw [e1, ← h3]
    · have h1 := (null_poly (p := p) (n := n) (ms := ms) (s := s) (cfOf p j k)).mp (cf_null hp I hj hnp) x hx
      rw [ef]
      exact (S_norm _ _).trans h1
    · have hm : ∀ t ∈ h, t.e ∈ ms := fun t ht => down t.e ms[j] hmem (hh.lens t ht) (hh.small t ht) (hb t ht)
      have hz1 := null_zero I (Nat.le_of_lt hj) hall (prop_split o hm hz) fun i h1 h2 => Eqm.of_eq (S_none fun t ht e => by
        have hi : ms[i]? = some ms[i] := List.getElem?_eq_getElem h2
        have hd : ms.getD i [] = ms[i] := by rw [List.getD_eq_getElem?_getD, hi]; rfl
        rw [hd] at e
        have := hb t ht
        rw [e] at this
        have := (o.lt hi hmj).mp this
        omega)
      refine prop_zero hh fun e => ?_
      by_cases he : ∃ t ∈ h, t.e = e
      · obtain ⟨t, ht, rfl⟩ := he
        obtain ⟨i, hi⟩ := List.getElem?_of_mem (hm t ht)
        have := hz1 i (List.getElem?_eq_some_iff.mp hi).1
        have hd : ms.getD i [] = t.e := by rw [List.getD_eq_getElem?_getD, hi]; rfl
        simp only [hd] at this
        exact this
      · exact Eqm.of_eq (S_none fun t ht q => he ⟨t, ht, q⟩)
/-! ### all rows of powers, in order -/
theorem exps_mem {p : Nat} : ∀ {n : Nat} {e : List Nat}, e ∈ exps p n ↔ e.length = n ∧ ∀ y ∈ e, y < p
  | 0, e => by
    rw [exps, List.mem_singleton]
    constructor
    · rintro rfl
      exact ⟨rfl, fun _ h => by cases h⟩
    · rintro ⟨h, _⟩
      exact List.eq_nil_of_length_eq_zero h
  | n + 1, e => by
    rw [exps, List.mem_flatMap]
    constructor
    · rintro ⟨a, ha, h⟩
      obtain ⟨r, hr, rfl⟩ := List.mem_map.mp h
      have q := exps_mem.mp hr
      refine ⟨by rw [List.length_cons, q.1], fun y hy => ?_⟩
      rcases List.mem_cons.mp hy with rfl | hy
      · exact List.mem_range.mp ha
      · exact q.2 y hy
    · rintro ⟨h1, h2⟩
      cases e with
      | nil => simp at h1
      | cons a r =>
        refine ⟨a, List.mem_range.mpr (h2 a (List.mem_cons_self ..)), List.mem_map.mpr ⟨r, exps_mem.mpr ⟨by simpa using h1, fun y hy => h2 y (List.mem_cons_of_mem _ hy)⟩, rfl⟩⟩
theorem nodup_flat {α β : Type} {f : α → List β} : ∀ {l : List α}, l.Nodup → (∀ a ∈ l, (f a).Nodup) → (∀ a ∈ l, ∀ b ∈ l, a ≠ b → ∀ x ∈ f a, x ∉ f b) → (l.flatMap f).Nodup
  | [], _, _, _ => by simp
  | a :: l, hn, h1, h2 => by
    rw [List.flatMap_cons, List.nodup_append]
    have hn1 := List.nodup_cons.mp hn
    refine ⟨h1 a (List.mem_cons_self ..), nodup_flat hn1.2 (fun b hb => h1 b (List.mem_cons_of_mem _ hb)) (fun b hb c hc => h2 b (List.mem_cons_of_mem _ hb) c (List.mem_cons_of_mem _ hc)), fun x hx y hy e => ?_⟩
    obtain ⟨b, hb, hy⟩ := List.mem_flatMap.mp hy
    subst e
    exact h2 a (List.mem_cons_self ..) b (List.mem_cons_of_mem _ hb) (fun z => hn1.1 (z ▸ hb)) x hx hy
theorem exps_nodup {p : Nat} : ∀ n : Nat, (exps p n).Nodup
  | 0 => by simp [exps]
  | n + 1 => by
    rw [exps]
    refine nodup_flat List.nodup_range (fun a _ => ?_) fun a _ b _ hne x hx hy => ?_
    · exact List.pairwise_map.mpr ((exps_nodup n).imp fun h e => h (List.cons.inj e).2)
    · obtain ⟨r, _, rfl⟩ := List.mem_map.mp hx
      obtain ⟨q, _, e⟩ := List.mem_map.mp hy
      exact hne (List.cons.inj e).1.symm
theorem exps_len {p : Nat} : ∀ n : Nat, (exps p n).length = p ^ n
  | 0 => rfl
  | n + 1 => by
    rw [exps, List.length_flatMap]
    have : (List.range p).map (fun a => ((exps p n).map fun e => a :: e).length) = List.replicate p (p ^ n) := by
      apply List.ext_getElem
      · simp
      · intro i h1 h2
        simp [exps_len n]
    rw [this, List.sum_replicate_nat, Nat.pow_succ, Nat.mul_comm]
theorem insertE_mem {e x : List Nat} : ∀ {l : List (List Nat)}, x ∈ insertE e l ↔ x = e ∨ x ∈ l
  | [] => by simp [insertE]
  | f :: l => by
    rw [insertE]
    split
    · rw [List.mem_cons]
    · rw [List.mem_cons, insertE_mem, List.mem_cons]
      constructor
      · rintro (h | h | h)
        · exact .inr (.inl h)
        · exact .inl h
        · exact .inr (.inr h)
      · rintro (h | h | h)
        · exact .inr (.inl h)
        · exact .inl h
        · exact .inr (.inr h)
theorem insertE_len {e : List Nat} : ∀ l : List (List Nat), (insertE e l).length = l.length + 1
  | [] => rfl
  | f :: l => by
    rw [insertE]
    split
    · rfl
    · rw [List.length_cons, insertE_len l, List.length_cons]
theorem insertE_srt {n : Nat} {e : List Nat} : ∀ {l : List (List Nat)}, e.length = n → (∀ f ∈ l, f.length = n) → e ∉ l → l.Pairwise (fun a b => before a b = true) → (insertE e l).Pairwise fun a b => before a b = true
  | [], _, _, _, _ => List.pairwise_singleton _ _
  | f :: l, he, hl, hn, hs => by
    have hs1 := List.pairwise_cons.mp hs
    rw [insertE]
    split
    · rename_i hb
      refine List.pairwise_cons.mpr ⟨fun x hx => ?_, hs⟩
      rcases List.mem_cons.mp hx with rfl | hx
      · exact hb
      · exact bef_trans hb (hs1.1 x hx)
    · rename_i hb
      have hfe : before f e = true := bef_tri (by rw [he, hl f (List.mem_cons_self ..)]) (fun z => hn (by rw [z]; exact List.mem_cons_self ..)) (by simpa using hb)
      refine List.pairwise_cons.mpr ⟨fun x hx => ?_, insertE_srt he (fun g hg => hl g (List.mem_cons_of_mem _ hg)) (fun z => hn (List.mem_cons_of_mem _ z)) hs1.2⟩
      rcases insertE_mem.mp hx with rfl | hx
      · exact hfe
      · exact hs1.1 x hx
theorem foldr_insert {n : Nat} : ∀ l : List (List Nat), l.Nodup → (∀ f ∈ l, f.length = n) → (l.foldr insertE []).Pairwise (fun a b => before a b = true) ∧ (∀ x, x ∈ l.foldr insertE [] ↔ x ∈ l) ∧ (l.foldr insertE []).length = l.length
  | [], _, _ => ⟨List.Pairwise.nil, fun x => Iff.rfl, rfl⟩
  | e :: l, hn, hl => by
    have hn1 := List.nodup_cons.mp hn
    obtain ⟨h1, h2, h3⟩ := foldr_insert l hn1.2 fun f hf => hl f (List.mem_cons_of_mem _ hf)
    rw [List.foldr_cons]
    refine ⟨insertE_srt (hl e (List.mem_cons_self ..)) (fun f hf => hl f (List.mem_cons_of_mem _ ((h2 f).mp hf))) (fun z => hn1.1 ((h2 e).mp z)) h1, fun x => ?_, ?_⟩
    · rw [insertE_mem, h2, List.mem_cons]
    · rw [insertE_len, h3, List.length_cons]
theorem monos_all (p n d : Nat) : (monos p n d).Pairwise (fun a b => before a b = true) ∧ (∀ x, x ∈ monos p n d ↔ x ∈ (exps p n).filter fun e => decide (total e ≤ d)) ∧ (monos p n d).length = ((exps p n).filter fun e => decide (total e ≤ d)).length :=
  foldr_insert (n := n) _ ((exps_nodup n).filter _) fun f hf => (exps_mem.mp (List.mem_filter.mp hf).1).1
theorem monos_mem {p n d : Nat} {e : List Nat} : e ∈ monos p n d ↔ e.length = n ∧ (∀ y ∈ e, y < p) ∧ total e ≤ d := by
  rw [(monos_all p n d).2.1, List.mem_filter, exps_mem, decide_eq_true_eq, and_assoc]
theorem monos_ord (p n d : Nat) : Ord p n (monos p n d) := ⟨(monos_all p n d).1, fun e he => (monos_mem.mp he).1, fun e he => (monos_mem.mp he).2.1⟩
theorem bef_total {a b : List Nat} (h : before a b = true) : total a ≤ total b := by
  simp only [before, Bool.or_eq_true, Bool.and_eq_true, decide_eq_true_eq, beq_iff_eq] at h
  omega
theorem monos_down {p n d : Nat} (e m : List Nat) (hm : m ∈ monos p n d) (h1 : e.length = n) (h2 : ∀ y ∈ e, y < p) (hb : before e m = true) : e ∈ monos p n d :=
  monos_mem.mpr ⟨h1, h2, Nat.le_trans (bef_total hb) (monos_mem.mp hm).2.2⟩
end Nz
namespace Nz
open Kzt1
/-! ### the least degree, by the specification -/
theorem leastOn_some {p n : Nat} {s : List Nat} : ∀ (k d : Nat) (y : Nat × List Term), leastOn p n s k d = some y → d ≤ y.1 ∧ nullOf p n (monos p n y.1) s = some y.2 ∧ ∀ q, d ≤ q → q < y.1 → nullOf p n (monos p n q) s = none
  | 0, d, y, h => by
    rw [leastOn] at h
    cases h
  | k + 1, d, y, h => by
    rw [leastOn] at h
    cases hn : nullOf p n (monos p n d) s with
    | some f =>
      rw [hn] at h
      have e : (d, f) = y := Option.some.inj h
      subst e
      exact ⟨Nat.le_refl _, hn, fun q h1 h2 => by
        have : q < d := h2
        omega⟩
    | none =>
      rw [hn] at h
      obtain ⟨h1, h2, h3⟩ := leastOn_some k (d + 1) y h
      refine ⟨by omega, h2, fun q h4 h5 => ?_⟩
      rcases Nat.eq_or_lt_of_le h4 with e | e
      · rw [← e]
        exact hn
      · exact h3 q e h5
theorem leastOn_none {p n : Nat} {s : List Nat} : ∀ (k d : Nat), leastOn p n s k d = none → ∀ q, d ≤ q → q < d + k → nullOf p n (monos p n q) s = none
  | 0, d, _, q, h1, h2 => by omega
  | k + 1, d, h, q, h1, h2 => by
    rw [leastOn] at h
    cases hn : nullOf p n (monos p n d) s with
    | some f =>
      rw [hn] at h
      cases h
    | none =>
      rw [hn] at h
      rcases Nat.eq_or_lt_of_le h1 with e | e
      · rw [← e]
        exact hn
      · exact leastOn_none k (d + 1) h q e (by omega)
theorem total_le {p : Nat} : ∀ {e : List Nat}, (∀ y ∈ e, y < p) → total e ≤ e.length * (p - 1)
  | [], _ => Nat.zero_le _
  | x :: e, h => by
    have h1 := h x (List.mem_cons_self ..)
    have ih := total_le (e := e) fun y hy => h y (List.mem_cons_of_mem _ hy)
    have e1 : total (x :: e) = x + total e := by
      show e.foldl (· + ·) (0 + x) = x + e.foldl (· + ·) 0
      rw [fold_sum, fold_sum]
      omega
    rw [e1, List.length_cons, Nat.succ_mul]
    omega
theorem least_some {p n : Nat} {s : List Nat} {y : Nat × List Term} (hp : Prime4 p) (h : Kzt1.least p n s = some y) : ∃ m, Least p n s m y.2 ∧ y.1 = total m := by
  obtain ⟨_, h2, h3⟩ := leastOn_some _ _ y h
  obtain ⟨m, hm, L⟩ := nullOf_some hp (monos_ord p n y.1) monos_down h2
  refine ⟨m, L, ?_⟩
  have hle := (monos_mem.mp hm).2.2
  apply Classical.byContradiction
  intro hne
  have hn := h3 (y.1 - 1) (by omega) (by omega)
  refine L.ne (nullOf_none hp (monos_ord p n (y.1 - 1)) hn L.prop (fun t ht => ?_) L.zero)
  refine monos_mem.mpr ⟨L.prop.lens t ht, L.prop.small t ht, ?_⟩
  rcases L.ahead ht with rfl | hb
  · show total m ≤ _
    omega
  · have := bef_total hb
    omega
theorem least_none {p n : Nat} {s : List Nat} (hp : Prime4 p) (h : Kzt1.least p n s = none) {f : List Term} (hf : Prop1 p n f) (hz : Zero p n s f) : f = [] := by
  have hn := leastOn_none _ _ h (n * (p - 1)) (Nat.zero_le _) (by omega)
  refine nullOf_none hp (monos_ord p n _) hn hf (fun t ht => ?_) hz
  refine monos_mem.mpr ⟨hf.lens t ht, hf.small t ht, ?_⟩
  have := total_le (hf.small t ht)
  rw [hf.lens t ht] at this
  exact this
/-- whoever has the one of the set has what is due -/
theorem least_is {p n : Nat} {s m : List Nat} {g : List Term} (hp : Prime4 p) (L : Least p n s m g) : Kzt1.least p n s = some (total m, g) := by
  have hp0 : 0 < p := by have := hp.gt; omega
  cases h : Kzt1.least p n s with
  | none => exact absurd (least_none hp h L.prop L.zero) L.ne
  | some y =>
    obtain ⟨m', L', e⟩ := least_some hp h
    obtain ⟨e1, e2⟩ := least_unique hp0 L L'
    rw [e1, e2, ← e]
/-- of fewer points than rows of powers one is nought -/
theorem nullOf_few {p n : Nat} {ms : List (List Nat)} {s : List Nat} (hp : Prime4 p) (h : s.length < ms.length) : nullOf p n ms s ≠ none := by
  have hp0 : 0 < p := by have := hp.gt; omega
  intro h0
  rw [nullOf_is] at h0
  have I := kept_start (l := s.map (row p n ms)) hp fun r hr => by
    obtain ⟨x, _, rfl⟩ := List.mem_map.mp hr
    exact row_low (n := n) hp0 ms x
  generalize simple p ms.length ms.length (s.map (row p n ms)) [] = k at h0 I
  have hall : ∀ i, i < ms.length → i ∈ k.map (·.1) := fun i hi => by
    cases hf : (List.range ms.length).find? (fun j => !(k.any fun y => y.1 == j)) with
    | none =>
      have := List.find?_eq_none.mp hf i (List.mem_range.mpr hi)
      obtain ⟨y, hy, e⟩ := piv_any.mp (show (k.any fun y => y.1 == i) = true by simpa using this)
      exact List.mem_map.mpr ⟨y, hy, e⟩
    | some j =>
      rw [hf] at h0
      cases h0
  have hsub : List.range ms.length ⊆ k.map (·.1) := fun i hi => hall i (List.mem_range.mp hi)
  have := List.Nodup.length_le_of_subset List.nodup_range hsub
  rw [List.length_range, List.length_map] at this
  have := I.ct
  rw [List.length_map] at this
  omega
theorem monos_len {p n d : Nat} (h : n * (p - 1) ≤ d) : (monos p n d).length = p ^ n := by
  rw [(monos_all p n d).2.2, ← exps_len (p := p) n]
  congr 1
  apply List.filter_eq_self.mpr
  intro e he
  have q := exps_mem.mp he
  have := total_le q.2
  rw [q.1] at this
  exact decide_eq_true (by omega)
theorem least_few {p n : Nat} {s : List Nat} (hp : Prime4 p) (h : s.length < p ^ n) : Kzt1.least p n s ≠ none := fun h0 => by
  have hn := leastOn_none _ _ h0 (n * (p - 1)) (Nat.zero_le _) (by omega)
  exact nullOf_few hp (by rw [monos_len (Nat.le_refl _)]; exact h) hn
/-! ### one that is nought everywhere has no terms -/
/-- the weights that find one power of a number below p -/
def lam (p a x : Nat) : Nat := if a = 0 then (if x = 0 then 1 else 0) else p - powMod p x (p - 1 - a)
def lamOk (p : Nat) : Bool := (List.range p).all fun a => (List.range p).all fun b => sumR p (fun x => lam p a x * powMod p x b) % p == if a = b then 1 else 0
theorem lam_ok {p : Nat} (hp : Prime4 p) : lamOk p = true := by
  rcases hp with rfl | rfl | rfl | rfl <;> decide +kernel
theorem lam_is {p a b : Nat} (hp : Prime4 p) (ha : a < p) (hb : b < p) : Eqm p (sumR p fun x => lam p a x * powMod p x b) (if a = b then 1 else 0) := by
  have h := List.all_eq_true.mp (List.all_eq_true.mp (lam_ok hp) a (List.mem_range.mpr ha)) b (List.mem_range.mpr hb)
  rw [beq_iff_eq] at h
  unfold Eqm
  rw [h]
  have := hp.gt
  by_cases e : a = b
  · rw [if_pos e, Nat.mod_eq_of_lt this]
  · rw [if_neg e, Nat.zero_mod]
/-- the same for points -/
def lams (p : Nat) : List Nat → List Nat → Nat
  | a :: e, x :: c => lam p a x * lams p e c
  | _, _ => 1
theorem coords_cons (p n x : Nat) (hp : 0 < p) : coords p (n + 1) x = x % p :: coords p n (x / p) := by
  rw [coords, coords, List.range_succ_eq_map, List.map_cons, List.map_map, Nat.pow_zero, Nat.div_one]
  congr 1
  apply List.map_congr_left
  intro i _
  show x / p ^ (i + 1) % p = x / p / p ^ i % p
  rw [Nat.pow_succ, Nat.mul_comm, Nat.div_div_eq_div_mul]
theorem mv_cons {p : Nat} (a x : Nat) (e c : List Nat) : Eqm p (mv p (x :: c) (a :: e)) (powMod p x a * mv p c e) := by
  unfold mv
  rw [List.zip_cons_cons, List.foldl_cons]
  refine (fold_mul _ _).trans ?_
  refine ((Eqm.mod p _).mul Eqm.rfl').trans (Eqm.of_eq ?_)
  rw [Nat.one_mul]
theorem sumR_split (g : Nat → Nat) (p : Nat) (hp : 0 < p) : ∀ m : Nat, sumR (m * p) g = sumR m fun y => sumR p fun x => g (x + p * y)
  | 0 => by rw [Nat.zero_mul]; rfl
  | m + 1 => by
    rw [Nat.succ_mul, sumR_succ, ← sumR_split g p hp m]
    have : ∀ k, sumR (m * p + k) g = sumR (m * p) g + sumR k fun x => g (x + p * m) := fun k => by
      induction k with
      | zero => rfl
      | succ k ih =>
        rw [← Nat.add_assoc, sumR_succ, ih, sumR_succ, Nat.add_assoc, Nat.mul_comm m p, Nat.add_comm (p * m) k]
    exact this p
theorem lams_is {p : Nat} (hp : Prime4 p) : ∀ (n : Nat) (e f : List Nat), e.length = n → f.length = n → (∀ y ∈ e, y < p) → (∀ y ∈ f, y < p) → Eqm p (sumR (p ^ n) fun x => lams p e (coords p n x) * mv p (coords p n x) f) (if e = f then 1 else 0)
  | 0, e, f, he, hf, _, _ => by
    rw [List.eq_nil_of_length_eq_zero he, List.eq_nil_of_length_eq_zero hf]
    rfl
  | n + 1, [], _, he, _, _, _ => by simp at he
  | n + 1, _ :: _, [], _, hf, _, _ => by simp at hf
  | n + 1, a :: e, b :: f, he, hf, h1, h2 => by
    have hp0 : 0 < p := by have := hp.gt; omega
    have ih := lams_is hp n e f (by simpa using he) (by simpa using hf) (fun y hy => h1 y (List.mem_cons_of_mem _ hy)) (fun y hy => h2 y (List.mem_cons_of_mem _ hy))
    have hab := lam_is hp (h1 a (List.mem_cons_self ..)) (h2 b (List.mem_cons_self ..))
    rw [Nat.pow_succ, sumR_split _ p hp0]
    have e1 : Eqm p (sumR (p ^ n) fun y => sumR p fun x => lams p (a :: e) (coords p (n + 1) (x + p * y)) * mv p (coords p (n + 1) (x + p * y)) (b :: f))
        (sumR (p ^ n) fun y => (lams p e (coords p n y) * mv p (coords p n y) f) * sumR p fun x => lam p a x * powMod p x b) := by
      refine sumR_congr fun y _ => ?_
      rw [← sumR_mul]
      refine sumR_congr fun x hx => ?_
      have ec : coords p (n + 1) (x + p * y) = x :: coords p n y := by
        rw [coords_cons p n _ hp0, Nat.add_mul_mod_self_left, Nat.mod_eq_of_lt hx, Nat.add_mul_div_left _ _ hp0, Nat.div_eq_of_lt hx, Nat.zero_add]
      rw [ec]
      show Eqm p (lam p a x * lams p e (coords p n y) * mv p (x :: coords p n y) (b :: f)) _
      refine (Eqm.rfl'.mul (mv_cons b x f _)).trans (Eqm.of_eq ?_)
      simp only [Nat.mul_assoc, Nat.mul_left_comm, Nat.mul_comm]
    refine e1.trans ?_
    have e2 : sumR (p ^ n) (fun y => (lams p e (coords p n y) * mv p (coords p n y) f) * sumR p fun x => lam p a x * powMod p x b) = (sumR p fun x => lam p a x * powMod p x b) * sumR (p ^ n) fun y => lams p e (coords p n y) * mv p (coords p n y) f := by
      rw [← sumR_mul]
      exact sumR_congr' fun y _ => Nat.mul_comm _ _
    rw [e2]
    refine (hab.mul ih).trans (Eqm.of_eq ?_)
    by_cases q1 : a = b
    · by_cases q2 : e = f
      · rw [if_pos q1, if_pos q2, if_pos (by rw [q1, q2])]
      · rw [if_neg q2, Nat.mul_zero, if_neg fun z => q2 (List.cons.inj z).2]
    · rw [if_neg q1, Nat.zero_mul, if_neg fun z => q1 (List.cons.inj z).1]
theorem sumR_S {w : Nat} (g : Nat → Nat) (v : Nat → List Nat → Nat) : ∀ f : List Term, sumR w (fun x => g x * S f (v x)) = S f fun e => sumR w fun x => g x * v x e
  | [] => by
    rw [S_nil]
    have : ∀ w, sumR w (fun x => g x * S [] (v x)) = 0 := fun w => by
      induction w with
      | zero => rfl
      | succ w ih => rw [sumR_succ, ih, S_nil, Nat.mul_zero]
    exact this w
  | t :: f => by
    rw [S_cons, ← sumR_S g v f, ← sumR_mul, ← sumR_add]
    refine sumR_congr' fun x _ => ?_
    rw [S_cons, Nat.mul_add, Nat.mul_left_comm]
theorem S_congr {p : Nat} {v u : List Nat → Nat} : ∀ {f : List Term}, (∀ t ∈ f, Eqm p (v t.e) (u t.e)) → Eqm p (S f v) (S f u)
  | [], _ => rfl
  | t :: f, h => by
    rw [S_cons, S_cons]
    exact (Eqm.rfl'.mul (h t (List.mem_cons_self ..))).add (S_congr fun w hw => h w (List.mem_cons_of_mem _ hw))
theorem zero_all {p n : Nat} (hp : Prime4 p) {f : List Term} (hf : Prop1 p n f) (h : ∀ x, x < p ^ n → Eqm p (S f (mv p (coords p n x))) 0) : f = [] := by
  refine prop_zero hf fun e => ?_
  by_cases he : ∃ t ∈ f, t.e = e
  · obtain ⟨t, ht, rfl⟩ := he
    have h1 : Eqm p (sumR (p ^ n) fun x => lams p t.e (coords p n x) * S f (mv p (coords p n x))) 0 := sumR_nil fun x hx => (Eqm.rfl'.mul (h x hx)).trans (Eqm.of_eq (Nat.mul_zero _))
    rw [sumR_S (fun x => lams p t.e (coords p n x)) (fun x => mv p (coords p n x))] at h1
    refine Eqm.trans (S_congr fun u hu => ?_) h1
    refine Eqm.trans (Eqm.of_eq ?_) (lams_is hp n t.e u.e (hf.lens t ht) (hf.lens u hu) (hf.small t ht) (hf.small u hu)).symm
    unfold one
    by_cases q : u.e = t.e
    · rw [if_pos q, if_pos q.symm]
    · rw [if_neg q, if_neg fun z => q z.symm]
  · exact Eqm.of_eq (S_none fun t ht q => he ⟨t, ht, q⟩)
/-- of all points there is none -/
theorem least_full {p n : Nat} {s : List Nat} (hp : Prime4 p) (h : ∀ x, x < p ^ n → x ∈ s) : Kzt1.least p n s = none := by
  cases h0 : Kzt1.least p n s with
  | none => rfl
  | some y =>
    obtain ⟨m, L, _⟩ := least_some hp h0
    exact absurd (zero_all hp L.prop fun x hx => L.zero x (h x hx)) L.ne
/-! ### a set of points -/
theorem rising_lt : ∀ {s : List Nat}, rising s = true → s.Pairwise (· < ·)
  | [], _ => List.Pairwise.nil
  | [_], _ => List.pairwise_singleton _ _
  | a :: b :: l, h => by
    rw [rising, Bool.and_eq_true, decide_eq_true_eq] at h
    have ih := rising_lt h.2
    refine List.pairwise_cons.mpr ⟨fun x hx => ?_, ih⟩
    rcases List.mem_cons.mp hx with rfl | hx
    · exact h.1
    · exact Nat.lt_trans h.1 ((List.pairwise_cons.mp ih).1 x hx)
theorem set_len {w : Nat} {s : List Nat} (h : s.Pairwise (· < ·)) (hs : ∀ x ∈ s, x < w) : s.length ≤ w := by
  have hn : s.Nodup := h.imp fun q e => by omega
  have := List.Nodup.length_le_of_subset hn (l₂ := List.range w) fun x hx => List.mem_range.mpr (hs x hx)
  rwa [List.length_range] at this
theorem set_full {w : Nat} {s : List Nat} (h : s.Pairwise (· < ·)) (hs : ∀ x ∈ s, x < w) (hl : s.length = w) : ∀ x, x < w → x ∈ s := by
  intro x hx
  apply Classical.byContradiction
  intro hn
  have hnd : s.Nodup := h.imp fun q e => by omega
  have h2 : (x :: s).Nodup := List.nodup_cons.mpr ⟨hn, hnd⟩
  have := List.Nodup.length_le_of_subset h2 (l₂ := List.range w) fun y hy => by
    rcases List.mem_cons.mp hy with rfl | hy
    · exact List.mem_range.mpr hx
    · exact List.mem_range.mpr (hs y hy)
  rw [List.length_range, List.length_cons] at this
  omega
theorem least_none_iff {p n : Nat} {s : List Nat} (hp : Prime4 p) (h : okSet p n s = true) : Kzt1.least p n s = none ↔ s.length = p ^ n := by
  rw [okSet, Bool.and_eq_true, List.all_eq_true] at h
  have h1 := rising_lt h.1
  have h2 : ∀ x ∈ s, x < p ^ n := fun x hx => of_decide_eq_true (h.2 x hx)
  constructor
  · intro h0
    have := set_len h1 h2
    rcases Nat.eq_or_lt_of_le this with e | e
    · exact e
    · exact absurd h0 (least_few hp e)
  · intro e
    exact least_full hp (set_full h1 h2 e)
end Nz
/-! ### the low terms in their order; products; degrees -/
namespace Nz
open Kzt1
theorem ord_uniq : ∀ {a b : List (List Nat)}, a.Pairwise (fun x y => before x y = true) → b.Pairwise (fun x y => before x y = true) → (∀ x, x ∈ a ↔ x ∈ b) → a = b
  | [], [], _, _, _ => rfl
  | [], y :: b, _, _, h => by
    have := (h y).mpr (List.mem_cons_self ..)
    cases this
  | x :: a, [], _, _, h => by
    have := (h x).mp (List.mem_cons_self ..)
    cases this
  | x :: a, y :: b, ha, hb, h => by
    have ha' := List.pairwise_cons.mp ha
    have hb' := List.pairwise_cons.mp hb
    have e : x = y := by
      rcases List.mem_cons.mp ((h x).mp (List.mem_cons_self ..)) with e | e
      · exact e
      · rcases List.mem_cons.mp ((h y).mpr (List.mem_cons_self ..)) with e2 | e2
        · exact e2.symm
        · have h1 := hb'.1 x e
          have h2 := ha'.1 y e2
          rw [bef_asym h1] at h2
          cases h2
    subst e
    rw [ord_uniq ha'.2 hb'.2 fun z => ?_]
    constructor
    · intro hz
      rcases List.mem_cons.mp ((h z).mp (List.mem_cons_of_mem _ hz)) with e | e
      · subst e
        have := ha'.1 z hz
        rw [bef_irr] at this
        cases this
      · exact e
    · intro hz
      rcases List.mem_cons.mp ((h z).mpr (List.mem_cons_of_mem _ hz)) with e | e
      · subst e
        have := hb'.1 z hz
        rw [bef_irr] at this
        cases this
      · exact e
theorem coords_lt {p n x : Nat} (hp : 0 < p) : ∀ y ∈ coords p n x, y < p := fun y hy => by
  obtain ⟨i, _, rfl⟩ := List.mem_map.mp hy
  exact Nat.mod_lt _ hp
theorem coords_ex {p : Nat} (hp : 0 < p) : ∀ (n : Nat) (e : List Nat), e.length = n → (∀ y ∈ e, y < p) → ∃ x, x < p ^ n ∧ coords p n x = e
  | 0, [], _, _ => ⟨0, by rw [Nat.pow_zero]; exact Nat.one_pos, rfl⟩
  | n + 1, a :: e, hl, hy => by
    obtain ⟨x, hx, he⟩ := coords_ex hp n e (by simpa using hl) fun y h => hy y (List.mem_cons_of_mem _ h)
    have ha := hy a (List.mem_cons_self ..)
    refine ⟨a + p * x, ?_, ?_⟩
    · have h1 : p * (x + 1) ≤ p * p ^ n := Nat.mul_le_mul_left p hx
      rw [Nat.mul_succ] at h1
      rw [Nat.pow_succ, Nat.mul_comm (p ^ n) p]
      omega
    · rw [coords_cons p n _ hp, Nat.add_mul_mod_self_left, Nat.mod_eq_of_lt ha, Nat.add_mul_div_left _ _ hp, Nat.div_eq_of_lt ha, Nat.zero_add, he]
theorem coords_inj {p : Nat} (hp : 0 < p) : ∀ (n x y : Nat), x < p ^ n → y < p ^ n → coords p n x = coords p n y → x = y
  | 0, x, y, hx, hy, _ => by
    rw [Nat.pow_zero] at hx hy
    omega
  | n + 1, x, y, hx, hy, h => by
    rw [coords_cons p n _ hp, coords_cons p n _ hp] at h
    have h1 := List.cons.inj h
    rw [Nat.pow_succ] at hx hy
    have h2 := coords_inj hp n (x / p) (y / p) (Nat.div_lt_of_lt_mul (by rw [Nat.mul_comm]; exact hx)) (Nat.div_lt_of_lt_mul (by rw [Nat.mul_comm]; exact hy)) h1.2
    rw [← Nat.div_add_mod x p, ← Nat.div_add_mod y p, h2, h1.1]
/-- all terms with each unknown less than p times, factor 1, as the program makes them -/
def rawT (p n : Nat) : List (List Nat) := (List.range (p ^ n)).map fun k => 1 :: coords p n k
/-- .. and in their order -/
def lowT (p n : Nat) : List (List Nat) := (monos p n (n * (p - 1))).map fun e => 1 :: e
theorem rawT_rows (p n : Nat) : Rows n (rawT p n) := fun t ht => by
  obtain ⟨k, _, rfl⟩ := List.mem_map.mp ht
  rw [List.length_cons, coords_len]
theorem rawT_len (p n : Nat) : (rawT p n).length = p ^ n := by
  rw [rawT, List.length_map, List.length_range]
theorem lowT_rows (p n : Nat) : Rows n (lowT p n) := fun t ht => by
  obtain ⟨e, he, rfl⟩ := List.mem_map.mp ht
  rw [List.length_cons, (monos_mem.mp he).1]
theorem lowT_len (p n : Nat) : (lowT p n).length = p ^ n := by
  rw [lowT, List.length_map, monos_len (Nat.le_refl _)]
theorem lowT_small {p n : Nat} (hp : 1 < p) (h7 : p ≤ 7) : ∀ t ∈ lowT p n, ∀ y ∈ t, y ≤ 12 := fun t ht y hy => by
  obtain ⟨e, he, rfl⟩ := List.mem_map.mp ht
  rcases List.mem_cons.mp hy with rfl | hy
  · omega
  · have := (monos_mem.mp he).2.1 y hy
    omega
theorem low_is {p n : Nat} (hp : 0 < p) {G : List (List Nat)} (hG : G.Perm (rawT p n)) (hs : G.Pairwise fun a b => before b.tail a.tail = false) : G = lowT p n := by
  have hR : ∀ t ∈ G, ∃ k, k < p ^ n ∧ t = 1 :: coords p n k := fun t ht => by
    obtain ⟨k, hk, rfl⟩ := List.mem_map.mp (hG.mem_iff.mp ht)
    exact ⟨k, List.mem_range.mp hk, rfl⟩
  have hnd : (rawT p n).Nodup := by
    refine List.pairwise_map.mpr (List.Pairwise.imp_of_mem (fun {x y} hx hy h e => ?_) (List.nodup_range (n := p ^ n)))
    exact h (coords_inj hp n x y (List.mem_range.mp hx) (List.mem_range.mp hy) (List.cons.inj e).2)
  have hGn : G.Nodup := hG.nodup_iff.mpr hnd
  have hE : G.map List.tail = monos p n (n * (p - 1)) := by
    refine ord_uniq ?_ (monos_all p n _).1 fun e => ?_
    · refine List.pairwise_map.mpr (List.Pairwise.imp_of_mem (fun {x y} hx hy h => ?_) (hs.and hGn))
      obtain ⟨k, _, rfl⟩ := hR x hx
      obtain ⟨l, _, rfl⟩ := hR y hy
      refine bef_tri (by rw [List.tail_cons, List.tail_cons, coords_len, coords_len]) (fun z => h.2 ?_) h.1
      rw [List.tail_cons, List.tail_cons] at z
      rw [z]
    · rw [monos_mem]
      constructor
      · intro he
        obtain ⟨t, ht, rfl⟩ := List.mem_map.mp he
        obtain ⟨k, _, rfl⟩ := hR t ht
        rw [List.tail_cons]
        have h2 := total_le (coords_lt (p := p) (n := n) (x := k) hp)
        rw [coords_len] at h2
        exact ⟨coords_len p n k, coords_lt hp, h2⟩
      · rintro ⟨h1, h2, _⟩
        obtain ⟨x, hx, rfl⟩ := coords_ex hp n e h1 h2
        exact List.mem_map.mpr ⟨1 :: coords p n x, hG.mem_iff.mpr (List.mem_map.mpr ⟨x, List.mem_range.mpr hx, rfl⟩), rfl⟩
  rw [lowT, ← hE, List.map_map]
  refine ((List.map_congr_left fun t ht => ?_).trans (List.map_id G)).symm
  obtain ⟨k, _, rfl⟩ := hR t ht
  rfl
theorem room_is {p n d : Nat} : ((lowT p n).filter fun t => decide (total t.tail ≤ d)).length = (monos p n d).length := by
  rw [lowT, List.filter_map, List.length_map]
  congr 1
  refine ord_uniq ((monos_all p n _).1.filter _) (monos_all p n d).1 fun e => ?_
  rw [List.mem_filter, monos_mem, monos_mem]
  constructor
  · rintro ⟨⟨h1, h2, h3⟩, h4⟩
    exact ⟨h1, h2, of_decide_eq_true h4⟩
  · rintro ⟨h1, h2, h3⟩
    have h4 := total_le h2
    rw [h1] at h4
    exact ⟨⟨h1, h2, h4⟩, decide_eq_true h3⟩
/-! products -/
def mulT (t u : List Nat) : List Nat := (t.headD 0 * u.headD 0) :: (t.tail.zip u.tail).map fun y => y.1 + y.2
def mulTs (T U : List (List Nat)) : List (List Nat) := T.flatMap fun t => U.map (mulT t)
theorem mulT_len {n : Nat} {t u : List Nat} (h1 : t.length = n + 1) (h2 : u.length = n + 1) : (mulT t u).length = n + 1 := by
  rw [mulT, List.length_cons, List.length_map, List.length_zip, List.length_tail, List.length_tail, h1, h2]
  omega
theorem mulTs_rows {n : Nat} {T U : List (List Nat)} (h1 : Rows n T) (h2 : Rows n U) : Rows n (mulTs T U) := fun t ht => by
  obtain ⟨a, ha, h⟩ := List.mem_flatMap.mp ht
  obtain ⟨b, hb, rfl⟩ := List.mem_map.mp h
  exact mulT_len (h1 a ha) (h2 b hb)
theorem S_modc {p : Nat} (v : List Nat → Nat) : ∀ f : List Term, Eqm p (S (f.map fun t => ⟨t.c % p, t.e⟩) v) (S f v)
  | [] => rfl
  | t :: f => by
    rw [List.map_cons, S_cons, S_cons]
    exact ((Eqm.mod p t.c).mul Eqm.rfl').add (S_modc v f)
theorem norm_modc {p n : Nat} (hp : 0 < p) {f : List Term} (hf : Lens n f) : norm p (f.map fun t => ⟨t.c % p, t.e⟩) = norm p f := by
  refine norm_congr (n := n) hp (fun t ht => ?_) hf fun e => S_modc _ f
  obtain ⟨u, hu, rfl⟩ := List.mem_map.mp ht
  exact hf u hu
theorem times_is {p n : Nat} (hp : 0 < p) {T U : List (List Nat)} (h1 : Rows n T) (h2 : Rows n U) : Kzt1.times p (T.map tm) (U.map tm) = norm p ((mulTs T U).map tm) := by
  rw [← norm_modc hp (rows_lens (mulTs_rows h1 h2)), Kzt1.times]
  congr 1
  rw [mulTs, List.flatMap_map, List.map_flatMap, List.map_flatMap]
  congr 1
  funext t
  rw [List.map_map, List.map_map, List.map_map]
  rfl
/-! degrees -/
def degT (T : List (List Nat)) : Nat := (T.map fun t => total t.tail).foldl max 0
theorem degree_is (T : List (List Nat)) : Kzt1.degree (T.map tm) = degT T := by
  rw [Kzt1.degree, degT, List.map_map]
  rfl
theorem foldl_max (l : List Nat) : ∀ (a m : Nat), (∀ y ∈ l, y ≤ m) → a ≤ m → (m ∈ l ∨ a = m) → l.foldl max a = m := by
  induction l with
  | nil =>
    intro a m _ _ h
    rcases h with h | h
    · cases h
    · exact h
  | cons x l ih =>
    intro a m h1 h2 h3
    rw [List.foldl_cons]
    have hx := h1 x (List.mem_cons_self ..)
    refine ih _ _ (fun y hy => h1 y (List.mem_cons_of_mem _ hy)) (Nat.max_le.mpr ⟨h2, hx⟩) ?_
    rcases h3 with h3 | h3
    · rcases List.mem_cons.mp h3 with h3 | h3
      · right
        rw [← h3]
        omega
      · exact .inl h3
    · right
      omega
theorem degT_last {T : List (List Nat)} {t : List Nat} (h : t ∈ T) (hl : ∀ u ∈ T, total u.tail ≤ total t.tail) : degT T = total t.tail := by
  refine foldl_max _ _ _ (fun y hy => ?_) (Nat.zero_le _) (.inl (List.mem_map.mpr ⟨t, h, rfl⟩))
  obtain ⟨u, hu, rfl⟩ := List.mem_map.mp hy
  exact hl u hu
theorem degT_one (t : List Nat) : degT [t] = total t.tail := degT_last (List.mem_singleton.mpr rfl) fun u hu => by
  rw [List.mem_singleton.mp hu]
  exact Nat.le_refl _
end Nz
/-! ### factors by which rows come to 0 -/
namespace Nz
open Kzt1
def dt (c : Nat → Nat) : List Nat → Nat
  | [] => 0
  | x :: r => c 0 * x + dt (fun i => c (i + 1)) r
theorem sumR_head (g : Nat → Nat) : ∀ w : Nat, sumR (w + 1) g = g 0 + sumR w fun i => g (i + 1)
  | 0 => by rw [sumR_succ, sumR_zero, sumR_zero]; omega
  | w + 1 => by
    rw [sumR_succ, sumR_head g w, sumR_succ]
    omega
theorem dot_dt : ∀ (r : List Nat) (c : Nat → Nat), dot r.length c r = dt c r
  | [], c => rfl
  | x :: r, c => by
    rw [List.length_cons, dot, sumR_head]
    show c 0 * x + dot r.length (fun i => c (i + 1)) r = _
    rw [dot_dt r, dt]
theorem dt_zero {p : Nat} : ∀ (r : List Nat) (c : Nat → Nat), (∀ i, i < r.length → Eqm p (c i) 0) → Eqm p (dt c r) 0
  | [], c, _ => rfl
  | x :: r, c, h => by
    have h1 := (h 0 (by rw [List.length_cons]; omega)).mul (Eqm.rfl' (a := x))
    rw [Nat.zero_mul] at h1
    exact h1.add (dt_zero r (fun i => c (i + 1)) fun i hi => h (i + 1) (by rw [List.length_cons]; omega))
def short (p : Nat) (u r : List Nat) : List Nat := (r.tail.zip u.tail).map fun y => (y.1 + (p - r.headD 0) * y.2) % p
theorem dt_comb {p k : Nat} : ∀ (r u : List Nat) (c : Nat → Nat), r.length = u.length → Eqm p (dt c ((r.zip u).map fun y => (y.1 + k * y.2) % p)) (dt c r + k * dt c u)
  | [], [], c, _ => Eqm.of_eq (by show 0 = 0 + k * 0; omega)
  | [], _ :: _, c, h => by simp at h
  | _ :: _, [], c, h => by simp at h
  | x :: r, y :: u, c, h => by
    show Eqm p (c 0 * ((x + k * y) % p) + dt (fun i => c (i + 1)) ((r.zip u).map fun y => (y.1 + k * y.2) % p)) (c 0 * x + dt (fun i => c (i + 1)) r + k * (c 0 * y + dt (fun i => c (i + 1)) u))
    refine ((Eqm.rfl'.mul (Eqm.mod p _)).add (dt_comb r u (fun i => c (i + 1)) (by simpa using h))).trans (Eqm.of_eq ?_)
    rw [Nat.mul_add, Nat.mul_add k, ← Nat.mul_assoc, ← Nat.mul_assoc, Nat.mul_comm (c 0) k]
    omega
def scaled (p v : Nat) (r : List Nat) : List Nat := r.map fun x => v * x % p
theorem dt_scaled {p v : Nat} : ∀ (r : List Nat) (c : Nat → Nat), Eqm p (dt c (scaled p v r)) (v * dt c r)
  | [], c => Eqm.of_eq (by show 0 = v * 0; omega)
  | x :: r, c => by
    show Eqm p (c 0 * (v * x % p) + dt (fun i => c (i + 1)) (scaled p v r)) (v * (c 0 * x + dt (fun i => c (i + 1)) r))
    refine ((Eqm.rfl'.mul (Eqm.mod p _)).add (dt_scaled r _)).trans (Eqm.of_eq ?_)
    rw [Nat.mul_add, ← Nat.mul_assoc, ← Nat.mul_assoc, Nat.mul_comm (c 0) v]
theorem short_len {p w : Nat} {u r : List Nat} (hu : u.length = w) (hr : r.length = w) : (short p u r).length = w - 1 := by
  rw [short, List.length_map, List.length_zip, List.length_tail, List.length_tail, hu, hr, Nat.min_self]
theorem short_lt {p : Nat} (hp : 0 < p) (u r : List Nat) : ∀ y ∈ short p u r, y < p := fun y hy => by
  obtain ⟨z, _, rfl⟩ := List.mem_map.mp hy
  exact Nat.mod_lt _ hp
theorem scaled_lt {p v : Nat} (hp : 0 < p) (r : List Nat) : ∀ y ∈ scaled p v r, y < p := fun y hy => by
  obtain ⟨z, _, rfl⟩ := List.mem_map.mp hy
  exact Nat.mod_lt _ hp
/-- a row freed of the chosen one's first number comes to the same -/
theorem dt_short {p w : Nat} {u r : List Nat} {d : Nat → Nat} (hu : u.length = w + 1) (hr : r.length = w + 1) (hr0 : r.headD 0 ≤ p) (he : Eqm p (d 0 + dt (fun i => d (i + 1)) u.tail) 0) : Eqm p (dt (fun i => d (i + 1)) (short p u r)) (dt d r) := by
  obtain ⟨x, q, rfl⟩ : ∃ x q, r = x :: q := by
    cases r with
    | nil => simp at hr
    | cons x q => exact ⟨x, q, rfl⟩
  have h1 : Eqm p (dt (fun i => d (i + 1)) (short p u (x :: q))) (dt (fun i => d (i + 1)) q + (p - x) * dt (fun i => d (i + 1)) u.tail) := dt_comb (p := p) (k := p - x) q u.tail (fun i => d (i + 1)) (by rw [List.length_tail, hu]; simpa using hr)
  refine h1.trans ?_
  show Eqm p _ (d 0 * x + dt (fun i => d (i + 1)) q)
  generalize dt (fun i => d (i + 1)) u.tail = D at he ⊢
  generalize dt (fun i => d (i + 1)) q = B
  have hx : x ≤ p := hr0
  have h2 : Eqm p ((p - x) * D + x * D) (d 0 * x + x * D) := by
    have e1 : (p - x) * D + x * D = p * D := by rw [← Nat.add_mul]; congr 1; omega
    have e2 : d 0 * x + x * D = x * (d 0 + D) := by rw [Nat.mul_add, Nat.mul_comm]
    rw [e1, e2]
    have h3 := (Eqm.rfl' (p := p) (a := x)).mul he
    rw [Nat.mul_zero] at h3
    refine Eqm.trans ?_ h3.symm
    exact Eqm.zero (Nat.mul_mod_right p D)
  have h4 := (Eqm.rfl' (p := p) (a := B)).add (Eqm.cancel h2)
  refine h4.trans (Eqm.of_eq (Nat.add_comm _ _))
structure Nf (p w : Nat) (R S L : List (List Nat)) : Prop where
  len : S.length + L.length + 1 = w
  wS : ∀ r ∈ S, r.length = w - S.length
  wL : ∀ r ∈ L, r.length = w - S.length
  lS : ∀ r ∈ S, ∀ y ∈ r, y < p
  lL : ∀ r ∈ L, ∀ y ∈ r, y < p
  iff : ∀ c : Nat → Nat, (∀ r ∈ R, Eqm p (dt c r) 0) ↔ (∀ (i : Nat) (r : List Nat), S[i]? = some r → Eqm p (c i + dt (fun k => c (k + S.length)) r) 0) ∧ ∀ r ∈ L, Eqm p (dt (fun k => c (k + S.length)) r) 0
theorem nf_start {p w : Nat} {R : List (List Nat)} (h1 : R.length + 1 = w) (h2 : ∀ r ∈ R, r.length = w) (h3 : ∀ r ∈ R, ∀ y ∈ r, y < p) : Nf p w R [] R := by
  refine ⟨(by rw [List.length_nil]; omega), (fun r h => by cases h), h2, (fun r h => by cases h), h3, fun c => ⟨fun h => ⟨fun i r z => by simp at z, h⟩, fun h => h.2⟩⟩
theorem mem_but {L : List (List Nat)} {a : Nat} {r : List Nat} (h : L[a]? = some r) (y : List Nat) : y ∈ L ↔ y = r ∨ y ∈ L.take a ++ L.drop (a + 1) := by
  rw [mem_erase h y, List.eraseIdx_eq_take_drop_succ]
theorem but_len {L : List (List Nat)} {a : Nat} {r : List Nat} (h : L[a]? = some r) : (L.take a ++ L.drop (a + 1)).length + 1 = L.length := by
  have := (List.getElem?_eq_some_iff.mp h).1
  rw [List.length_append, List.length_take, List.length_drop]
  omega
theorem nf_step {p w a v : Nat} {R S L : List (List Nat)} (hp : 1 < p) (I : Nf p w R S L) {r : List Nat} (ha : L[a]? = some r) (hv : v * r.headD 0 % p = 1) :
    Nf p w R (S.map (short p (scaled p v r)) ++ [(scaled p v r).tail]) ((L.take a ++ L.drop (a + 1)).map (short p (scaled p v r))) := by
  have hp0 : 0 < p := by omega
  have hrm := List.mem_of_getElem? ha
  have hrw := I.wL r hrm
  have hL := but_len ha
  have hlen := I.len
  have hw : w - S.length = (w - S.length - 1) + 1 := by omega
  have hsub : ∀ q ∈ L.take a ++ L.drop (a + 1), q ∈ L := fun q hq => (mem_but ha q).mpr (.inr hq)
  obtain ⟨u, eu⟩ : ∃ u, u = scaled p v r := ⟨_, rfl⟩
  have hul : u.length = w - S.length := by rw [eu, scaled, List.length_map, hrw]
  have hS' : (S.map (short p u) ++ [u.tail]).length = S.length + 1 := by rw [List.length_append, List.length_map]; rfl
  have hu0 : ∃ u', u = 1 :: u' := by
    cases r with
    | nil => rw [List.length_nil] at hrw; omega
    | cons x q => exact ⟨scaled p v q, by rw [eu]; show (v * x % p) :: scaled p v q = _; rw [show v * x % p = 1 from hv]⟩
  obtain ⟨u', eu'⟩ := hu0
  rw [← eu]
  refine ⟨by rw [hS', List.length_map]; omega, fun q hq => ?_, fun q hq => ?_, fun q hq => ?_, fun q hq => ?_, fun c => (I.iff c).trans ?_⟩
  · rw [hS']
    rcases List.mem_append.mp hq with hq | hq
    · obtain ⟨z, hz, rfl⟩ := List.mem_map.mp hq
      rw [short_len hul (I.wS z hz)]
      omega
    · rw [List.mem_singleton.mp hq, List.length_tail, hul]
      omega
  · rw [hS']
    obtain ⟨z, hz, rfl⟩ := List.mem_map.mp hq
    rw [short_len hul (I.wL z (hsub z hz))]
    omega
  · rcases List.mem_append.mp hq with hq | hq
    · obtain ⟨z, hz, rfl⟩ := List.mem_map.mp hq
      exact short_lt hp0 _ _
    · intro y hy
      rw [List.mem_singleton.mp hq] at hy
      refine scaled_lt (p := p) (v := v) hp0 r y ?_
      rw [← eu]
      exact List.mem_of_mem_tail hy
  · obtain ⟨z, hz, rfl⟩ := List.mem_map.mp hq
    exact short_lt hp0 _ _
  · rw [hS']
    obtain ⟨d, ed⟩ : ∃ d : Nat → Nat, d = fun k => c (k + S.length) := ⟨_, rfl⟩
    have ed' : (fun k => c (k + (S.length + 1))) = fun k => d (k + 1) := by
      rw [ed]
      funext k
      show c (k + (S.length + 1)) = c (k + 1 + S.length)
      congr 1
      omega
    have ed0 : c S.length = d 0 := by
      rw [ed]
      show _ = c (0 + S.length)
      rw [Nat.zero_add]
    rw [ed', ← ed]
    have hru : Eqm p (dt d r) 0 ↔ Eqm p (d 0 + dt (fun k => d (k + 1)) u.tail) 0 := by
      have e1 : dt d u = d 0 + dt (fun k => d (k + 1)) u.tail := by
        rw [eu']
        show d 0 * 1 + _ = _
        rw [Nat.mul_one]
        rfl
      have h1 : Eqm p (dt d u) (v * dt d r) := by rw [eu]; exact dt_scaled r d
      rw [← e1]
      constructor
      · intro h
        refine h1.trans ?_
        have h2 := (Eqm.rfl' (p := p) (a := v)).mul h
        rw [Nat.mul_zero] at h2
        exact h2
      · intro h
        have h2 : Eqm p (v * dt d r) 0 := h1.symm.trans h
        have h3 := (Eqm.rfl' (p := p) (a := r.headD 0)).mul h2
        rw [Nat.mul_zero, ← Nat.mul_assoc, Nat.mul_comm (r.headD 0) v] at h3
        have h4 : Eqm p (v * r.headD 0) 1 := by
          show v * r.headD 0 % p = 1 % p
          rw [hv, Nat.mod_eq_of_lt hp]
        have h5 := h4.mul (Eqm.rfl' (p := p) (a := dt d r))
        rw [Nat.one_mul] at h5
        exact h5.symm.trans h3
    have hq0 : ∀ q ∈ S ++ L, q.headD 0 ≤ p := fun q hq => by
      have hlt : ∀ y ∈ q, y < p := (List.mem_append.mp hq).elim (fun z => I.lS q z) (fun z => I.lL q z)
      cases q with
      | nil => exact Nat.zero_le _
      | cons x q => exact Nat.le_of_lt (hlt x (List.mem_cons_self ..))
    constructor
    · rintro ⟨h1, h2⟩
      have hE := hru.mp (h2 r hrm)
      refine ⟨fun i q hq => ?_, fun q hq => ?_⟩
      · rcases Nat.lt_or_ge i S.length with hi | hi
        · rw [List.getElem?_append_left (by rw [List.length_map]; exact hi)] at hq
          rw [List.getElem?_map] at hq
          obtain ⟨z, hz, rfl⟩ := Option.map_eq_some_iff.mp hq
          have hzm := List.mem_of_getElem? hz
          have h3 := dt_short (d := d) (hul.trans hw) ((I.wS z hzm).trans hw) (hq0 z (List.mem_append_left _ hzm)) hE
          exact (Eqm.rfl'.add h3).trans (h1 i z hz)
        · rw [List.getElem?_append_right (by rw [List.length_map]; exact hi), List.length_map] at hq
          have hi2 := (List.getElem?_eq_some_iff.mp hq).1
          rw [List.length_singleton] at hi2
          have e : i = S.length := by omega
          rw [e, Nat.sub_self] at hq
          rw [← show u.tail = q from Option.some.inj hq, e, ed0]
          exact hE
      · obtain ⟨z, hz, rfl⟩ := List.mem_map.mp hq
        have hzm := hsub z hz
        exact (dt_short (d := d) (hul.trans hw) ((I.wL z hzm).trans hw) (hq0 z (List.mem_append_right _ hzm)) hE).trans (h2 z hzm)
    · rintro ⟨h1, h2⟩
      have hE : Eqm p (d 0 + dt (fun k => d (k + 1)) u.tail) 0 := by
        have := h1 S.length u.tail (by rw [List.getElem?_append_right (by rw [List.length_map]; exact Nat.le_refl _), List.length_map, Nat.sub_self]; rfl)
        rw [ed0] at this
        exact this
      refine ⟨fun i q hq => ?_, fun q hq => ?_⟩
      · have hqm := List.mem_of_getElem? hq
        have hi := (List.getElem?_eq_some_iff.mp hq).1
        have h3 := dt_short (d := d) (hul.trans hw) ((I.wS q hqm).trans hw) (hq0 q (List.mem_append_left _ hqm)) hE
        refine (Eqm.rfl'.add h3.symm).trans (h1 i _ ?_)
        rw [List.getElem?_append_left (by rw [List.length_map]; exact hi), List.getElem?_map, hq]
        rfl
      · rcases (mem_but ha q).mp hq with rfl | hq2
        · exact hru.mpr hE
        · have h3 := dt_short (d := d) (hul.trans hw) ((I.wL q hq).trans hw) (hq0 q (List.mem_append_right _ hq)) hE
          exact h3.symm.trans (h2 _ (List.mem_map.mpr ⟨q, hq2, rfl⟩))
/-- the factors -/
def facsOf (p : Nat) (S : List (List Nat)) : List Nat := S.map (fun r => (p - r.headD 0) % p) ++ [1]
theorem nf_null {p w : Nat} {R S L : List (List Nat)} (hp : 1 < p) (I : Nf p w R S L) (h0 : ∀ r ∈ L, r.headD 0 = 0) : ∀ r ∈ R, Eqm p (dt (fun i => (facsOf p S).getD i 0) r) 0 := by
  refine (I.iff _).mpr ⟨fun i r hr => ?_, fun r hr => ?_⟩
  all_goals
    have hfl : (facsOf p S).length = S.length + 1 := by rw [facsOf, List.length_append, List.length_map]; rfl
    have hlast : (facsOf p S).getD (0 + S.length) 0 = 1 := by
      rw [facsOf, Nat.zero_add, List.getD_eq_getElem?_getD, List.getElem?_append_right (by rw [List.length_map]; exact Nat.le_refl _), List.length_map, Nat.sub_self]
      rfl
    have hrest : ∀ k, (facsOf p S).getD (k + 1 + S.length) 0 = 0 := fun k => by
      rw [List.getD_eq_getElem?_getD, List.getElem?_eq_none (by rw [hfl]; omega)]
      rfl
    have hlen := I.len
  · have hrm := List.mem_of_getElem? hr
    have hi := (List.getElem?_eq_some_iff.mp hr).1
    have hrw := I.wS r hrm
    cases r with
    | nil => rw [List.length_nil] at hrw; omega
    | cons x q =>
      show Eqm p ((facsOf p S).getD i 0 + ((facsOf p S).getD (0 + S.length) 0 * x + dt (fun k => (facsOf p S).getD (k + 1 + S.length) 0) q)) 0
      have e1 : (facsOf p S).getD i 0 = (p - x) % p := by
        rw [facsOf, List.getD_eq_getElem?_getD, List.getElem?_append_left (by rw [List.length_map]; exact hi), List.getElem?_map, hr]
        rfl
      have hx := I.lS _ hrm x (List.mem_cons_self ..)
      rw [hlast, e1, Nat.one_mul]
      have h2 := (Eqm.mod p (p - x)).add (Eqm.rfl'.add (dt_zero (p := p) q (fun k => (facsOf p S).getD (k + 1 + S.length) 0) fun k _ => Eqm.of_eq (hrest k)) : Eqm p (x + _) (x + 0))
      refine h2.trans (Eqm.zero ?_)
      rw [Nat.add_zero, Nat.sub_add_cancel (Nat.le_of_lt hx), Nat.mod_self]
  · have hrw := I.wL r hr
    have hz := h0 r hr
    cases r with
    | nil => exact rfl
    | cons x q =>
      show Eqm p ((facsOf p S).getD (0 + S.length) 0 * x + dt (fun k => (facsOf p S).getD (k + 1 + S.length) 0) q) 0
      rw [show x = 0 from hz, Nat.mul_zero, Nat.zero_add]
      exact dt_zero q _ fun k _ => Eqm.of_eq (hrest k)
theorem nf_only {p w : Nat} {R S L : List (List Nat)} (I : Nf p w R S L) {c : Nat → Nat} (hc : ∀ r ∈ R, Eqm p (dt c r) 0) (hz : ∀ i, S.length ≤ i → i < w → Eqm p (c i) 0) : ∀ i, i < w → Eqm p (c i) 0 := by
  intro i hi
  rcases Nat.lt_or_ge i S.length with h | h
  · have h1 := ((I.iff c).mp hc).1 i S[i] (List.getElem?_eq_getElem h)
    have hw := I.wS S[i] (List.getElem_mem h)
    have h2 := dt_zero (p := p) S[i] (fun k => c (k + S.length)) fun k hk => hz (k + S.length) (by omega) (by omega)
    have h3 := (Eqm.rfl' (p := p) (a := c i)).add h2
    exact h3.symm.trans h1
  · exact hz i h hi
end Nz
/-! ### the polynomial of a set, as the program makes it -/
namespace Nz
open Kzt1
theorem S_keptV (v : List Nat → Nat) : ∀ d : Fd, S ((kept d).map tm) v = S (d.map tf) v
  | [] => rfl
  | x :: d => by
    rw [kept, List.filter_cons, List.map_cons, S_cons]
    by_cases hx : x.2 = 0
    · rw [if_neg (by simp [hx])]
      show S ((kept d).map tm) v = x.2 * v x.1 + _
      rw [hx, Nat.zero_mul, Nat.zero_add]
      exact S_keptV v d
    · rw [if_pos (by simp [hx]), List.map_cons, List.map_cons, S_cons]
      show x.2 * v x.1 + S ((kept d).map tm) v = x.2 * v x.1 + _
      rw [S_keptV v d]
theorem S_zip (v : List Nat → Nat) : ∀ (ms : List (List Nat)) (F : List Nat), S ((ms.zip F).map tf) v = sumR ms.length fun i => F.getD i 0 * v (ms.getD i [])
  | [], F => rfl
  | m :: ms, [] => by
    rw [List.zip_nil_right, List.map_nil, S_nil]
    have : ∀ w, sumR w (fun i => ([] : List Nat).getD i 0 * v ((m :: ms).getD i [])) = 0 := fun w => by
      induction w with
      | zero => rfl
      | succ w ih => rw [sumR_succ, ih]; show 0 + 0 * _ = 0; omega
    exact (this _).symm
  | m :: ms, c :: F => by
    rw [List.zip_cons_cons, List.map_cons, S_cons, S_zip v ms F, List.length_cons, sumR_head]
    rfl
theorem zero_of {p n : Nat} {s : List Nat} {f g : List Term} (h : ∀ v, S f v = S g v) (hz : Zero p n s f) : Zero p n s g := fun x hx => by
  rw [← h]
  exact hz x hx
def lowM (p n k : Nat) : List (List Nat) := (monos p n (n * (p - 1))).take k
theorem lowM_mem {p n k : Nat} {e : List Nat} (h : e ∈ lowM p n k) : e.length = n ∧ ∀ y ∈ e, y < p := by
  have := monos_mem.mp (List.mem_of_mem_take h)
  exact ⟨this.1, this.2.1⟩
theorem lowM_ord (p n k : Nat) : Ord p n (lowM p n k) := ⟨(monos_all p n _).1.sublist (List.take_sublist _ _), fun e h => (lowM_mem h).1, fun e h => (lowM_mem h).2⟩
theorem lowM_len {p n k : Nat} (h : k ≤ p ^ n) : (lowM p n k).length = k := by
  rw [lowM, List.length_take, monos_len (Nat.le_refl _)]
  omega
theorem lowM_down {p n k i : Nat} {m e : List Nat} (hm : (lowM p n k)[i]? = some m) (h1 : e.length = n) (h2 : ∀ y ∈ e, y < p) (hb : before e m = true) : ∃ l, l < i ∧ (lowM p n k)[l]? = some e := by
  have h3 := total_le h2
  rw [h1] at h3
  obtain ⟨l, hl⟩ := List.getElem?_of_mem (monos_mem.mpr ⟨h1, h2, h3⟩)
  have hik := (List.getElem?_eq_some_iff.mp hm).1
  rw [lowM, List.length_take] at hik
  have hm2 : (monos p n (n * (p - 1)))[i]? = some m := by
    rw [lowM, List.getElem?_take_of_lt (by omega)] at hm
    exact hm
  have hli := ((monos_ord p n (n * (p - 1))).lt hl hm2).mp hb
  exact ⟨l, hli, by rw [lowM, List.getElem?_take_of_lt (by omega)]; exact hl⟩
theorem dots {p w : Nat} {R : List (List Nat)} (c : Nat → Nat) (h : ∀ r ∈ R, r.length = w) : Null p w c R ↔ ∀ r ∈ R, Eqm p (dt c r) 0 := by
  constructor
  · intro hn r hr
    rw [← dot_dt, h r hr]
    exact hn r hr
  · intro hn r hr
    have := hn r hr
    rw [← dot_dt, h r hr] at this
    exact this
theorem setRows_len {p n k : Nat} {s : List Nat} (h : k ≤ p ^ n) : ∀ r ∈ s.map (row p n (lowM p n k)), r.length = k := fun r hr => by
  obtain ⟨x, _, rfl⟩ := List.mem_map.mp hr
  rw [row, List.length_map, lowM_len h]
theorem setRows_lt {p n : Nat} {s : List Nat} {ms : List (List Nat)} (hp : 0 < p) : ∀ r ∈ s.map (row p n ms), ∀ y ∈ r, y < p := fun r hr y hy => by
  obtain ⟨x, _, rfl⟩ := List.mem_map.mp hr
  obtain ⟨e, _, rfl⟩ := List.mem_map.mp hy
  exact value_lt hp _ _
/-- the rows of the set's polynomial -/
def setG (p n k : Nat) (S : List (List Nat)) : List (List Nat) := kept ((lowM p n k).zip (facsOf p S))
theorem facs_lt {p : Nat} (hp : 1 < p) (S : List (List Nat)) : ∀ y ∈ facsOf p S, y < p := fun y hy => by
  rcases List.mem_append.mp hy with h | h
  · obtain ⟨r, _, rfl⟩ := List.mem_map.mp h
    exact Nat.mod_lt _ (by omega)
  · rw [List.mem_singleton.mp h]
    exact hp
theorem setG_rows (p n k : Nat) (S : List (List Nat)) : Rows n (setG p n k S) := fun t ht => by
  obtain ⟨x, hx, _, rfl⟩ := kept_mem ht
  rw [List.length_cons, (lowM_mem (List.of_mem_zip hx).1).1]
theorem setG_len {p n k : Nat} {S : List (List Nat)} : (setG p n k S).length ≤ S.length + 1 := by
  have h1 : (setG p n k S).length ≤ ((lowM p n k).zip (facsOf p S)).length := by
    rw [setG, kept, List.length_map]
    exact List.length_filter_le _ _
  have h2 : (facsOf p S).length = S.length + 1 := by rw [facsOf, List.length_append, List.length_map]; rfl
  rw [List.length_zip, h2] at h1
  omega
theorem fst_sub : ∀ (l : List (List Nat)) (r : List Nat), ((l.zip r).map (·.1)).Sublist l
  | [], _ => List.nil_sublist _
  | _ :: _, [] => List.nil_sublist _
  | x :: l, y :: r => (fst_sub l r).cons_cons x
theorem set_least {p n : Nat} {s : List Nat} {S L : List (List Nat)} (hp : Prime4 p) (hs : s.length < p ^ n) (I : Nf p (s.length + 1) (s.map (row p n (lowM p n (s.length + 1)))) S L) (h0 : ∀ r ∈ L, r.headD 0 = 0) :
    Kzt1.least p n s = some (degT (setG p n (s.length + 1) S), (setG p n (s.length + 1) S).map tm) := by
  obtain ⟨w, ew⟩ : ∃ w, w = s.length + 1 := ⟨_, rfl⟩
  have hw : w ≤ p ^ n := by omega
  rw [← ew] at I ⊢
  obtain ⟨ms, ems⟩ : ∃ ms, ms = lowM p n w := ⟨_, rfl⟩
  have hml : ms.length = w := by rw [ems]; exact lowM_len hw
  have o : Ord p n ms := by rw [ems]; exact lowM_ord p n w
  have hlen := I.len
  have hp1 := hp.gt
  have hj : S.length < ms.length := by omega
  have hmj : ms[S.length]? = some ms[S.length] := List.getElem?_eq_getElem hj
  obtain ⟨m, em⟩ : ∃ m, m = ms[S.length] := ⟨_, rfl⟩
  rw [← em] at hmj
  -- the last term
  have hzip : ms.zip (facsOf p S) = (ms.take S.length).zip (S.map fun r => (p - r.headD 0) % p) ++ [(m, 1)] := by
    have e1 : ms = ms.take S.length ++ m :: ms.drop (S.length + 1) := by
      have := List.drop_eq_getElem_cons hj
      rw [← em] at this
      rw [← this, List.take_append_drop]
    have e2 : (ms.take S.length).length = (S.map fun r => (p - r.headD 0) % p).length := by
      rw [List.length_take, List.length_map]
      omega
    conv => lhs; rw [e1]
    rw [facsOf, List.zip_append e2]
    congr 1
    cases ms.drop (S.length + 1) <;> rfl
  have hG : setG p n w S = kept (ms.zip (facsOf p S)) := by rw [setG, ems]
  have hlast : ∃ r, setG p n w S = r ++ [1 :: m] := by
    rw [hG, hzip]
    refine ⟨kept ((ms.take S.length).zip (S.map fun r => (p - r.headD 0) % p)), ?_⟩
    rw [kept, kept, List.filter_append, List.map_append]
    rfl
  have hGmem : ∀ t ∈ setG p n w S, ∃ c e, t = c :: e ∧ e ∈ ms ∧ 1 ≤ c ∧ c < p := fun t ht => by
    rw [hG] at ht
    obtain ⟨x, hx, hne, rfl⟩ := kept_mem ht
    obtain ⟨h1, h2⟩ := List.of_mem_zip hx
    exact ⟨x.2, x.1, rfl, h1, Nat.pos_of_ne_zero hne, facs_lt hp1 S _ h2⟩
  have hsrt : Srt ((setG p n w S).map tm) := by
    rw [hG]
    refine List.pairwise_map.mpr (List.pairwise_map.mpr ?_)
    have h1 : (((ms.zip (facsOf p S)).filter fun x => x.2 != 0).map (·.1)).Sublist ms := by
      exact (List.Sublist.map _ List.filter_sublist).trans (fst_sub ms _)
    exact List.pairwise_map.mp (o.srt.sublist h1)
  have hS : ∀ v, Nz.S ((setG p n w S).map tm) v = Nz.S (polyOf ms fun i => (facsOf p S).getD i 0) v := fun v => by
    rw [hG, S_keptV, S_zip, S_polyOf]
  have hR := setRows_len (p := p) (n := n) (s := s) hw
  rw [← ems] at hR
  have hnull := (dots (p := p) (fun i => (facsOf p S).getD i 0) hR).mpr (by
    rw [ems]
    exact nf_null hp1 I h0)
  have hZ : Zero p n s ((setG p n w S).map tm) := by
    refine zero_of (fun v => (hS v).symm) ?_
    rw [← null_poly, hml]
    exact hnull
  have L : Least p n s m ((setG p n w S).map tm) := by
    refine ⟨⟨hsrt, fun t ht => ?_, rows_lens (setG_rows p n w S), fun t ht => ?_⟩, ?_, hZ, fun h hh hb hz => ?_⟩
    · obtain ⟨u, hu, rfl⟩ := List.mem_map.mp ht
      obtain ⟨c, e, rfl, _, h1, h2⟩ := hGmem u hu
      exact ⟨h1, h2⟩
    · obtain ⟨u, hu, rfl⟩ := List.mem_map.mp ht
      obtain ⟨c, e, rfl, h1, _⟩ := hGmem u hu
      exact o.small e h1
    · obtain ⟨r, e⟩ := hlast
      exact ⟨r.map tm, by rw [e, List.map_append]; rfl⟩
    · have hd : ∀ t ∈ h, ∃ l, l < S.length ∧ ms[l]? = some t.e := fun t ht => by
        rw [ems] at hmj ⊢
        exact lowM_down hmj (hh.lens t ht) (hh.small t ht) (hb t ht)
      have hm : ∀ t ∈ h, t.e ∈ ms := fun t ht => by
        obtain ⟨l, _, hl⟩ := hd t ht
        exact List.mem_of_getElem? hl
      have h1 := prop_split o hm hz
      rw [hml, dots _ hR, ems] at h1
      have h2 := nf_only I h1 fun i hi hiw => Eqm.of_eq (S_none fun t ht z => by
        obtain ⟨l, hl, hle⟩ := hd t ht
        rw [← ems] at z
        have hi2 : i < ms.length := by omega
        have e3 : ms.getD i [] = ms[i] := by rw [List.getD_eq_getElem?_getD, List.getElem?_eq_getElem hi2]; rfl
        obtain ⟨hl2, e4⟩ := List.getElem?_eq_some_iff.mp hle
        rw [e3, ← e4] at z
        have := (List.getElem_inj o.nodup).mp z
        omega)
      refine prop_zero hh fun e => ?_
      by_cases he : e ∈ ms
      · obtain ⟨l, hl⟩ := List.getElem?_of_mem he
        obtain ⟨hl2, e4⟩ := List.getElem?_eq_some_iff.mp hl
        have h3 := h2 l (by omega)
        rw [← ems] at h3
        have e3 : ms.getD l [] = e := by rw [List.getD_eq_getElem?_getD, hl]; rfl
        have h4 : Eqm p (Nz.S h (one (ms.getD l []))) 0 := h3
        rw [e3] at h4
        exact h4
      · exact Eqm.of_eq (S_none fun t ht z => he (z ▸ hm t ht))
  rw [least_is hp L]
  obtain ⟨r, e⟩ := hlast
  have hmem : 1 :: m ∈ setG p n w S := by
    rw [e]
    exact List.mem_append.mpr (.inr (List.mem_singleton.mpr rfl))
  rw [degT_last hmem fun u hu => ?_]
  · rfl
  · rcases L.ahead (List.mem_map.mpr ⟨u, hu, rfl⟩) with h | h
    · have : u.tail = m := congrArg Term.e h
      rw [this]
      exact Nat.le_refl _
    · exact bef_total h
end Nz
/-! ### sets of points; what is due of least -/
namespace Nz
open Kzt1
def isS (p n : Nat) (s : List Nat) : Bool := okField p n && okSet p n s
theorem rising_iff : ∀ s : List Nat, rising s = true ↔ ∀ (i a b : Nat), s[i]? = some a → s[i + 1]? = some b → a < b
  | [] => ⟨fun _ i a b h => by simp at h, fun _ => rfl⟩
  | [x] => ⟨fun _ i a b _ h => by simp at h, fun _ => rfl⟩
  | x :: y :: l => by
    rw [rising, Bool.and_eq_true, decide_eq_true_eq, rising_iff (y :: l)]
    constructor
    · rintro ⟨h1, h2⟩ i a b ha hb
      cases i with
      | zero =>
        rw [← show x = a from Option.some.inj ha, ← show y = b from Option.some.inj hb]
        exact h1
      | succ i => exact h2 i a b ha hb
    · intro h
      exact ⟨h 0 x y rfl rfl, fun i a b ha hb => h (i + 1) a b ha hb⟩
theorem all_last {w z : Nat} {s : List Nat} (h : rising s = true) (hz : s[s.length - 1]? = some z) : (s.all fun x => decide (x < w)) = decide (z < w) := by
  have hp := rising_lt h
  rw [Bool.eq_iff_iff, List.all_eq_true, decide_eq_true_eq]
  constructor
  · intro hall
    exact of_decide_eq_true (hall z (List.mem_of_getElem? hz))
  · intro hzw x hx
    obtain ⟨i, hi⟩ := List.getElem?_of_mem hx
    obtain ⟨hi1, hi2⟩ := List.getElem?_eq_some_iff.mp hi
    obtain ⟨hz1, hz2⟩ := List.getElem?_eq_some_iff.mp hz
    refine decide_eq_true ?_
    rcases Nat.lt_or_ge i (s.length - 1) with h2 | h2
    · have := List.pairwise_iff_getElem.mp hp i (s.length - 1) hi1 hz1 h2
      omega
    · have e : i = s.length - 1 := by omega
      subst e
      rw [← hi2, hz2]
      exact hzw
theorem isS_no {p n : Nat} {s : List Nat} (h : okField p n = false) : isS p n s = false := by
  rw [isS, h]
  rfl
theorem isS_low {p n : Nat} {s : List Nat} (h : rising s = false) : isS p n s = false := by
  rw [isS, okSet, h, Bool.false_and, Bool.and_false]
theorem isS_nil {p n : Nat} (h : okField p n = true) : isS p n [] = true := by
  rw [isS, h]
  rfl
theorem isS_last {p n z : Nat} {s : List Nat} (ok : okField p n = true) (h : rising s = true) (hz : s[s.length - 1]? = some z) : isS p n s = decide (z < p ^ n) := by
  rw [isS, ok, okSet, h, Bool.true_and, Bool.true_and, all_last h hz]
theorem isS_ex {p n : Nat} {s : List Nat} (h : isS p n s = true) : okField p n = true ∧ okSet p n s = true := by
  rw [isS, Bool.and_eq_true] at h
  exact h
theorem okSet_lt {p n : Nat} {s : List Nat} (h : okSet p n s = true) : s.Pairwise (· < ·) ∧ ∀ x ∈ s, x < p ^ n := by
  rw [okSet, Bool.and_eq_true] at h
  exact ⟨rising_lt h.1, fun x hx => of_decide_eq_true (List.all_eq_true.mp h.2 x hx)⟩
theorem prime_of {p n : Nat} (h : okField p n = true) : Prime4 p := (okField_iff.mp h).1
/-- a term's value with factor 1 is what a row has of it -/
theorem tv_row {p n x : Nat} (hp : 1 < p) (e : List Nat) : tv p (1 :: e) (coords p n x) = Kzt1.value p [⟨1, e⟩] (coords p n x) := by
  have h : tvE p (e.zip (coords p n x)) 1 < p := tvE_lt (by omega) _ _ hp
  show tvE p (e.zip (coords p n x)) 1 = (0 + (e.zip (coords p n x)).foldl (fun v y => v * powMod p y.2 y.1 % p) 1) % p
  rw [← tvE_is hp _ _ hp, Nat.zero_add, Nat.mod_eq_of_lt h]
end Nz
/-! ### two words that the layer lacks: a list below a list; the values of a row -/
namespace Nz
open PySem PySem.Spec PyProof.Rows L2
def vn (l : List Nat) : List V := (natI l).map V.int
theorem vn_len (l : List Nat) : (vn l).length = l.length := by
  rw [vn, natI, List.length_map, List.length_map]
theorem vn_get {l : List Nat} {i : Nat} {x : Nat} (h : l[i]? = some x) : (vn l)[i]? = some (V.int (x : Int)) := by
  rw [vn, natI, List.getElem?_map, List.getElem?_map, h]
  rfl
theorem vn_app (l r : List Nat) : vn (l ++ r) = vn l ++ vn r := by
  rw [vn, natI, List.map_append, List.map_append]
  rfl
theorem vn_drop (l : List Nat) (k : Nat) : vn (l.drop k) = (vn l).drop k := by
  rw [vn, natI, List.map_drop, List.map_drop]
  rfl
theorem vn_take (l : List Nat) (k : Nat) : vn (l.take k) = (vn l).take k := by
  rw [vn, natI, List.map_take, List.map_take]
  rfl
theorem vn_inj : ∀ {l r : List Nat}, vn l = vn r → l = r
  | [], [], _ => rfl
  | [], _ :: _, h => by simp [vn, natI] at h
  | _ :: _, [], h => by simp [vn, natI] at h
  | a :: l, b :: r, h => by
    have h1 := List.cons.inj (show V.int (a : Int) :: vn l = V.int (b : Int) :: vn r from h)
    have h2 : (a : Int) = (b : Int) := V.int.inj h1.1
    rw [vn_inj h1.2, Int.ofNat.inj h2]
/-- two rows of numbers, the first difference decides -/
def rowLt : List Nat → List Nat → Bool
  | [], [] => false
  | [], _ :: _ => true
  | _ :: _, [] => false
  | x :: xs, y :: ys => if x = y then rowLt xs ys else decide (x < y)
def dN (l : List Nat) : PyData := .list (l.map fun x : Nat => PyData.int (x : Int))
theorem dpAll_vn {K : PySem.W.Frag} {H : Hp} : ∀ l : List Nat, DpAll K H (vn l) (l.map fun x : Nat => PyData.int (x : Int))
  | [] => .nil
  | x :: l => .cons (.int (x : Int)) (dpAll_vn l)
theorem alike_dN : ∀ l r : List Nat, PySem.W.alikeAll (l.map fun x : Nat => PyData.int (x : Int)) (r.map fun x : Nat => PyData.int (x : Int)) = true
  | [], _ => by rw [List.map_nil, PySem.W.alikeAll]
  | _ :: _, [] => by rw [List.map_nil, List.map_cons, PySem.W.alikeAll]
  | x :: l, y :: r => by
    rw [List.map_cons, List.map_cons, PySem.W.alikeAll, alike_dN l r, PySem.W.alike]
    rfl
theorem lt_dN : ∀ l r : List Nat, PyProof.Rows.lexLt PyProof.Rows.itemOrd (PySem.W.keyToksAll (l.map fun x : Nat => PyData.int (x : Int))) (PySem.W.keyToksAll (r.map fun x : Nat => PyData.int (x : Int))) = rowLt l r
  | [], [] => PyProof.Rows.lex_irrefl _
  | [], y :: r => by
    rw [List.map_nil, List.map_cons, PySem.W.toks_all_cons]
    simp only [PySem.W.keyToksAll]
    rw [PyProof.Rows.lex_diff (O := PyProof.Rows.itemOrd) (by simp)]
    rfl
  | x :: l, [] => by
    rw [List.map_nil, List.map_cons, PySem.W.toks_all_cons]
    simp only [PySem.W.keyToksAll]
    rw [PyProof.Rows.lex_diff (O := PyProof.Rows.itemOrd) (by simp)]
    rfl
  | x :: l, y :: r => by
    rw [List.map_cons, List.map_cons, rowLt]
    have ha : PySem.W.alike (.int (x : Int)) (.int (y : Int)) = true := by rw [PySem.W.alike]
    by_cases h : x = y
    · subst h
      have e : PyData.eqv (.int (x : Int)) (.int (x : Int)) = true := by simp [PyData.eqv]
      rw [if_pos rfl, PySem.W.dataLt_all_yes ha e, lt_dN l r]
    · have e : PyData.eqv (.int (x : Int)) (.int (y : Int)) = false := by
        simp [PyData.eqv]
        omega
      rw [if_neg h, PySem.W.dataLt_all_no ha e, PySem.W.dataLt_int]
      apply decide_eq_decide.mpr
      omega
theorem depth_dN (l : List Nat) : (dN l).depth ≤ 1 := by
  have h : ∀ l : List Nat, PyData.depthAll (l.map fun x : Nat => PyData.int (x : Int)) = 0 := fun l => by
    induction l with
    | nil => rfl
    | cons x l ih =>
      rw [List.map_cons, PyData.depthAll, ih]
      rfl
  rw [dN, PyData.depth, h]
  exact Nat.le_refl _
def rLtN (K : PySem.W.Frag) : R2 := fun x y H Q => ∃ (a b : Addr) (l r : List Nat), x = .ref a ∧ y = .ref b ∧ SqL K H a (vn l) ∧ SqL K H b (vn r) ∧ Q (.bl (rowLt l r)) H
theorem op_ltN {X : Cx} (hu : X.A.units + 64 < cLine) : OpR X (compareOp .Lt) (rLtN X.K) := by
  intro pins s σ H x y v u Q I rx ry h
  obtain ⟨a, b, l, r, rfl, rfl, hl, hr, q⟩ := h
  obtain ⟨as, r1⟩ := Dp.reads I (dN l) (.ref a) v (.lst hl (dpAll_vn l)) rx
  obtain ⟨bs, r2⟩ := Dp.reads I (dN r) (.ref b) u (.lst hr (dpAll_vn r)) ry
  have e : PySem.W.dataLt (dN l) (dN r) = rowLt l r := (PySem.W.dataLt_list _ _).trans (lt_dN l r)
  have hal : PySem.W.alike (dN l) (dN r) = true := by
    rw [dN, dN, PySem.W.alike]
    exact alike_dN l r
  have hd := depth_dN l
  refine PySem.W.rcLt_alike (dN l) (dN r) X.A s v u as bs r1 r2 hal (fun z => nomatch z) (Nat.lt_of_le_of_lt (Nat.add_le_add_left (Nat.le_trans (Nat.min_le_left _ _) (Nat.le_trans hd (by decide : 1 ≤ 64))) _) hu) X.prog X.w X.xe _ ?_
  rw [e]
  exact ⟨.bl _, H, I, rfl, q⟩
/-- the order of terms by rows: the degree ahead -/
theorem rowLt_lex : ∀ (l r : List Nat), l.length = r.length → rowLt l r = Kzt1.lexBefore l r
  | [], [], _ => rfl
  | [], _ :: _, h => by simp at h
  | _ :: _, [], h => by simp at h
  | x :: l, y :: r, h => by
    rw [rowLt, Kzt1.lexBefore, rowLt_lex l r (by simpa using h)]
    by_cases e : x = y
    · subst e
      simp
    · rw [if_neg e]
      simp [e]
theorem rowLt_before {l r : List Nat} (h : l.length = r.length) : rowLt (Kzt1.total l :: l) (Kzt1.total r :: r) = Kzt1.before l r := by
  rw [rowLt, rowLt_lex l r h, Kzt1.before]
  by_cases e : Kzt1.total l = Kzt1.total r
  · rw [if_pos e]
    simp [e]
  · rw [if_neg e]
    simp [e]
/-! ### slices, sums -/
theorem cut_tail (l : List Nat) : cutV (vn l) (some 1) none = vn l.tail := by
  have e1 : HT.sIx (vn l).length 0 (some 1) = min 1 (vn l).length := HT.sIx_nat _ 0 1
  have e2 : l.tail = l.drop 1 := by rw [List.drop_one]
  rw [cutV, e1, HT.sIx_none, e2, vn_drop]
  rcases Nat.eq_zero_or_pos (vn l).length with h | h
  · rw [List.eq_nil_of_length_eq_zero h]
    rfl
  · rw [show min 1 (vn l).length = 1 by omega]
    apply List.take_of_length_le
    rw [List.length_drop]
    exact Nat.le_refl _
theorem cut_piece (l : List Nat) (i j : Nat) (h : i ≤ j) (hj : j ≤ l.length) : cutV (vn l) (some (i : Int)) (some (j : Int)) = vn ((l.drop i).take (j - i)) := by
  rw [cutV, HT.sIx_nat, HT.sIx_nat, vn_len, vn_take, vn_drop, Nat.min_eq_left hj, Nat.min_eq_left (by omega)]
theorem total_cons (x : Nat) (l : List Nat) : Kzt1.total (x :: l) = x + Kzt1.total l := by
  have h : ∀ (l : List Nat) (a b : Nat), l.foldl (· + ·) (a + b) = a + l.foldl (· + ·) b := fun l => by
    induction l with
    | nil => intro a b; rfl
    | cons y l ih =>
      intro a b
      rw [List.foldl_cons, List.foldl_cons, Nat.add_assoc, ih]
  show l.foldl (· + ·) (0 + x) = x + l.foldl (· + ·) 0
  rw [Nat.zero_add]
  exact h l x 0
theorem sum_natI : ∀ l : List Nat, (natI l).sum = ((Kzt1.total l : Nat) : Int)
  | [] => rfl
  | x :: l => by
    show ((x : Int) :: natI l).sum = _
    rw [List.sum_cons, sum_natI l, total_cons]
    omega
/-! ### heaps -/
theorem same_upd {H : Hp} {p : Addr} {o : HO} (h : H p = none) : Same H (upd H p o) := fun b x e => by
  rw [upd_ne (ne_of_none e h)]
  exact e
/-- a list of rows -/
def TAt (K : PySem.W.Frag) (H : Hp) (a : Addr) (T : List (List Nat)) : Prop := ∃ as : List Addr, SqL K H a (as.map V.ref) ∧ as.length = T.length ∧ ∀ (i : Nat) (b : Addr) (t : List Nat), as[i]? = some b → T[i]? = some t → SqL K H b (vn t)
theorem TAt.same {K : PySem.W.Frag} {H H' : Hp} {a : Addr} {T : List (List Nat)} (e : Same H H') (h : TAt K H a T) : TAt K H' a T := by
  obtain ⟨as, h1, h2, h3⟩ := h
  exact ⟨as, e.seq h1, h2, fun i b t hb ht => e.seq (h3 i b t hb ht)⟩
/-! ### lists of rows that stand by themselves -/
def TTr (H : Hp) (a : Addr) (T : List (List Nat)) : Prop := ∃ as : List Addr, H a = some (.lst (as.map V.ref)) ∧ as.length = T.length ∧ ∀ (i : Nat) (b : Addr) (t : List Nat), as[i]? = some b → T[i]? = some t → H b = some (.lst (vn t))
theorem TTr.at_ {K : PySem.W.Frag} {H : Hp} {a : Addr} {T : List (List Nat)} (h : TTr H a T) : TAt K H a T := by
  obtain ⟨as, h1, h2, h3⟩ := h
  exact ⟨as, SqL.of h1, h2, fun i b t hb ht => SqL.of (h3 i b t hb ht)⟩
theorem TTr.same {H H' : Hp} {a : Addr} {T : List (List Nat)} (e : Same H H') (h : TTr H a T) : TTr H' a T := by
  obtain ⟨as, h1, h2, h3⟩ := h
  exact ⟨as, e _ _ h1, h2, fun i b t hb ht => e _ _ (h3 i b t hb ht)⟩
theorem get_ex {α β : Type} {l : List α} {r : List β} {i : Nat} {x : α} (hl : l.length = r.length) (h : l[i]? = some x) : ∃ y, r[i]? = some y := by
  obtain ⟨h1, _⟩ := List.getElem?_eq_some_iff.mp h
  exact ⟨r[i]'(by omega), List.getElem?_eq_getElem (by omega)⟩
theorem map_get {α β : Type} {l : List α} {f : α → β} {i : Nat} {y : β} (h : (l.map f)[i]? = some y) : ∃ x, l[i]? = some x ∧ y = f x := by
  rw [List.getElem?_map] at h
  cases e : l[i]? with
  | none =>
    rw [e] at h
    cases h
  | some x =>
    rw [e] at h
    exact ⟨x, rfl, (Option.some.inj h).symm⟩
/-- one item more -/
theorem take_more {α : Type} {l : List α} {i : Nat} {x : α} (h : l[i]? = some x) : l.take (i + 1) = l.take i ++ [x] := by
  rw [List.take_add_one, h]
  rfl
end Nz
set_option maxHeartbeats 1000000
/-! ### sorted(xs, key=f): f a def of the program that gives lists of ints -/
namespace Nz
open PySem PySem.Spec PyProof.Rows L2
/-- an address that is nobody's: no frame, no cell, no pin, newer than the entry -/
structure Fresh (X : Cx) (pins : List (Addr × Obj)) (b : Addr) : Prop where
  sz : X.s_0.heap.objs.size ≤ b
  loc : b ≠ X.env.locals
  cel : ∀ x c, X.env.cells.lookup x = some c → c ≠ b
  pin : ∀ p ∈ X.pn ++ pins, p.1 ≠ b
  fs : b ∉ X.fs
section
variable {X : Cx} {pins : List (Addr × Obj)} {σ : L2.St} {H : Hp} {s : Shared}
theorem fresh_of {b : Addr} (I : Inv X pins σ H s) (h : s.heap.objs.size ≤ b) : Fresh X pins b := by
  refine ⟨Nat.le_trans I.sz h, fun e => ?_, fun x c e z => ?_, fun p hp z => ?_, I.nofs h⟩
  · have := I.lt
    rw [← e] at this
    exact Nat.lt_irrefl _ (Nat.lt_of_lt_of_le this h)
  · obtain ⟨v, o, ho, _⟩ := I.cell x c e
    rw [z] at ho
    exact Nat.lt_irrefl _ (Nat.lt_of_lt_of_le (Heap.lt_size ho) h)
  · have ho := (I.pin p hp).1
    rw [z] at ho
    exact Nat.lt_irrefl _ (Nat.lt_of_lt_of_le (Heap.lt_size ho) h)
theorem refs_eq : ∀ {as : List Addr} {us : List Value}, Vals (as.map V.ref) us → us = as.map Value.ref
  | [], _, r => by
    cases r
    rfl
  | a :: as, _, r => by
    cases r with
    | cons h t =>
      cases h
      rw [refs_eq t]
      rfl
theorem refs_vals : ∀ as : List Addr, Vals (as.map V.ref) (as.map Value.ref)
  | [] => .nil
  | a :: as => .cons (show RelV (.ref a) (.ref a) from rfl) (refs_vals as)
theorem each_at {α β : Type} {R : α → β → Prop} : ∀ {l : List α} {r : List β}, l.length = r.length → (∀ (i : Nat) (x : α) (y : β), l[i]? = some x → r[i]? = some y → R x y) → PySem.W.EachIs R l r
  | [], [], _, _ => .nil
  | [], _ :: _, h, _ => by simp at h
  | _ :: _, [], h, _ => by simp at h
  | x :: l, y :: r, h, f => .cons (f 0 x y rfl rfl) (each_at (by simpa using h) fun i x y hx hy => f (i + 1) x y hx hy)
theorem each_ref {α : Type} {g : α → Addr} : ∀ {us : List Value} {l : List α}, PySem.W.EachIs (fun u x => u = Value.ref (g x)) us l → us = (l.map g).map Value.ref
  | _, _, .nil => rfl
  | _, _, .cons h t => by
    rw [h, each_ref t]
    rfl
/-- a heap without what stands at b -/
theorem without_one (h : Heap) (b : Addr) : ∃ g : Heap, g.get? b = none ∧ ∀ c, c ≠ b → g.get? c = h.get? c := by
  refine ⟨h.update b fun o => { o with data := .freed }, ?_, (Heap.SameBut.update h b _).2⟩
  cases e : (h.update b fun o => { o with data := .freed }).get? b with
  | none => rfl
  | some o =>
    exfalso
    have hlt := Heap.lt_size e
    rw [Heap.size_update] at hlt
    unfold Heap.get? at e
    simp [Heap.update, hlt] at e
    rw [Array.getElem_modify_self] at e
    cases e
/-- the list at a sorted, the one at kS let go -/
theorem inv_sorted {a kS : Addr} {oa : Obj} {ks : List V} {ys : List Addr} {h3 : Heap} {tk c : Nat} (I : Inv X ((a, oa) :: pins) σ H s) (fa : Fresh X pins a) (fk : Fresh X pins kS) (hne : kS ≠ a) (hk : H kS = some (.lst ks))
    (kp : ∀ b o, b ≠ a → b ≠ kS → s.heap.get? b = some o → h3.get? b = some o) (ha : h3.get? a = some (seqObj "list" (ys.map Value.ref).toArray c)) (hz : ys.length ≤ sizeLine) :
    Inv X pins σ (fun b => if b = kS then none else upd H a (.lst (ys.map V.ref)) b) { s with heap := h3, toks := tk } := by
  have pa := I.pin (a, oa) (List.mem_append_right _ (List.mem_cons_self ..))
  have I0 : Inv X pins σ H s := I.pins_of fun p hp => I.pin p (List.mem_append_right _ (List.mem_cons_of_mem _ hp))
  have hHa : H a = none := pa.2.1
  have tr : ∀ b o, H b = some o → b ≠ kS → (if b = kS then none else upd H a (.lst (ys.map V.ref)) b) = some o := fun b o e n => by
    rw [if_neg n, upd_ne (ne_of_none e hHa)]
    exact e
  refine I0.step (g' := s.gens) (d' := s.drawn) (ch := [kS, a]) (fun b hb => ?_) (fun b o _ _ hc e _ => ?_) (fun b o _ _ hc e _ => ?_) (fun b o hc e n => ?_) (fun b o hc e => ?_) (fun b xs e => ?_) (fun b o u e => ?_) (fun b ps e => ?_) (fun m hm => ?_) (fun b u e => ?_) I0.bare
  · rcases List.mem_cons.mp hb with rfl | hb
    · exact ⟨.inr fk.sz, fk.loc, fk.cel, fk.pin⟩
    · rw [List.mem_singleton.mp hb]
      exact ⟨.inr fa.sz, fa.loc, fa.cel, fa.pin⟩
  · exact kp b o (fun z => hc (by simp [z])) (fun z => hc (by simp [z])) e
  · exact ⟨o.slots, kp b o (fun z => hc (by simp [z])) (fun z => hc (by simp [z])) e⟩
  · have n1 : b ≠ kS := fun z => hc (by simp [z])
    have n2 : b ≠ a := fun z => hc (by simp [z])
    rw [if_neg n1, upd_ne n2]
    exact n
  · exact ⟨o, kp b o (fun z => hc (by simp [z])) (fun z => hc (by simp [z])) e⟩
  · exact tr b _ e fun z => by
      rw [z, hk] at e
      cases e
  · exact tr b _ e fun z => by
      rw [z, hk] at e
      cases e
  · refine ⟨#[], ?_⟩
    rw [Array.append_empty]
    exact tr b _ e fun z => by
      rw [z, hk] at e
      cases e
  · obtain ⟨o, es, ep, ho, r⟩ := hm
    exact ⟨o, es, ep, kp _ o (Ne.symm fa.loc) (Ne.symm fk.loc) ho, r⟩
  · by_cases hb : b = kS
    · rw [if_pos hb] at e
      cases e
    · rw [if_neg hb] at e
      by_cases hba : b = a
      · subst hba
        rw [upd_same] at e
        cases e
        exact ⟨by rw [List.length_map]; exact hz, ys.map Value.ref, c, refs_vals ys, ha⟩
      · rw [upd_ne hba] at e
        refine (I0.hok b u e).stay (fun d v hd q => kp d v (fun z => ?_) (fun z => ?_) q) (fun d q => tr d _ q fun z => ?_) fun d xs q => tr d _ q fun z => ?_
        · subst z
          rcases hd with z | z
          · exact hba z.symm
          · rw [hHa] at z
            cases z
        · subst z
          rcases hd with z | z
          · exact hb z.symm
          · rw [hk] at z
            cases z
        · rw [z, hk] at q
          cases q
        · rw [z, hk] at q
          cases q
end
end Nz
set_option maxHeartbeats 1000000
namespace Nz
open PySem PySem.Spec PyProof.Rows L2
section
variable {X : Cx} {pins : List (Addr × Obj)} {σ : L2.St} {H : Hp} {s : Shared}
/-- the order of items by their keys -/
def leB (kf : List Nat → List Nat) : Addr × List Nat → Addr × List Nat → Bool := PySem.W.dataLe false fun x => dN (kf x.2)
theorem not_ints {os : List Addr} {l : List Nat} (h : l ≠ []) : (os.map V.ref) ≠ vn l := by
  cases l with
  | nil => exact absurd rfl h
  | cons x l =>
    cases os with
    | nil => exact fun z => nomatch z
    | cons o os => exact fun z => nomatch (List.cons.inj z).1
/-- what a key's call asks and gives -/
def KeyDef (X : Cx) (T : List (List Nat)) (kf : List Nat → List Nat) (sp : Sp) : Prop :=
  ∀ (b : Addr) (t : List Nat) (H : Hp) (Q : VK) (E : XK), t ∈ T → SqL X.K H b (vn t) → (∀ (H' : Hp) (o : Addr), Same H H' → H' o = some (.lst (vn (kf t))) → Q (.ref o) H') → sp [.ref b] H Q E
theorem rest_by {k : Nat} {f a kS : Addr} {fd : FuncData} {sp : Sp} {kf : List Nat → List Nat} {as : List Addr} {T : List (List Nat)} {A' : Around} {oe : Nat} {P : PySem.Fin → Shared → Prop} {E : Value → Shared → Prop}
    (F : FnOk X.prog X.w X.K X.mg X.base CX0 k f fd ["term"] sp) (hA : A' = X.A.in1.in1) (hr : Room k A') (hb : Binds X.K fd ["term"] []) (hsp : KeyDef X T kf sp) (hkf : ∀ t, kf t ≠ [])
    (hlen : as.length = T.length) (hz : as.length ≤ sizeLine) (hat : ∀ (i : Nat) (b : Addr) (t : List Nat), as[i]? = some b → T[i]? = some t → SqL X.K H b (vn t))
    (fa : Fresh X pins a) (fk : Fresh X pins kS) (hka : kS ≠ a) (hH : H kS = none) (I : Inv X ((a, seqObj "list" #[] oe) :: pins) σ (upd H kS (.lst [])) s)
    (q : ∀ (H' : Hp) (s' : Shared), Inv X pins σ H' s' → Same H H' → H' a = some (.lst (((as.zip T).mergeSort (leB kf)).map fun x => V.ref x.1)) → P (.done (.ret .none)) s') :
    wpAny (model X.prog X.w) A' (ksk_rest a (.ref f) false (as.map Value.ref).toArray oe (.ref kS)) P E s := by
  have hzip : (as.zip T).length = as.length := by rw [List.length_zip, hlen, Nat.min_self]
  unfold ksk_rest
  refine wpAny_bind (wpAny_rule ?_)
  rw [List.forIn_toArray]
  refine wpAny_bind (ksk_fold (fun i s' => ∃ (H' : Hp) (os : List Addr), Inv X ((a, seqObj "list" #[] oe) :: pins) σ H' s' ∧ Same H H' ∧ H' kS = some (.lst (os.map V.ref)) ∧ os.length = i ∧ ∀ (j : Nat) (o : Addr) (t : List Nat), os[j]? = some o → T[j]? = some t → H' o = some (.lst (vn (kf t))))
    (as.map Value.ref) 0 s ⟨_, [], I, same_upd hH, upd_same, rfl, fun j o t ho => by simp at ho⟩ ?turn ?after)
  case turn =>
    rintro j x s' hx ⟨H', os, I', sm, hk, hos, hall⟩
    rw [Nat.zero_add] at hos ⊢
    obtain ⟨b, hbj, rfl⟩ := map_get hx
    obtain ⟨t, htj⟩ := get_ex hlen hbj
    have hjl : j < as.length := (List.getElem?_eq_some_iff.mp hbj).1
    have hbt := sm.seq (hat j b t hbj htj)
    have hcall : wpAny (model X.prog X.w) A' (call (.ref f) [.ref b]) (EP X ((a, seqObj "list" #[] oe) :: pins) σ fun x H'' => Same H' H'' ∧ ∃ o, x = .ref o ∧ H'' o = some (.lst (vn (kf t)))) (fun _ _ => False) s' := by
      refine wpAny_call (codeAny_mono (F.run A' X.stack s' H' ⟨[.ref b], []⟩ [.ref b] [.ref b] (fun x H'' => Same H' H'' ∧ ∃ o, x = V.ref o ∧ H'' o = some (.lst (vn (kf t)))) E0 hr (by rw [hA]; exact I'.env0.in1.in1) (hb s' [.ref b] I'.kIn rfl) (refs_vals [b]) (hsp b t H' _ E0 (List.mem_of_getElem? htj) hbt fun H'' o s2 e2 => ⟨s2, o, rfl, e2⟩)) fun r s'' hq => ?_)
      cases r with
      | error e => exact hq
      | ok fl =>
        cases fl with
        | ret u => exact I'.after hq
        | next => exact False.elim hq
        | brk => exact False.elim hq
        | cont => exact False.elim hq
    refine wpAny_bind (wpAny_attempt (wpAny_mono hcall (fun u s2 he => ?_) fun _ _ hF => hF.elim))
    obtain ⟨x, H2, I2, rx, s12, o, rfl, e2⟩ := he
    cases rx
    have hk2 := s12 _ _ hk
    have hok : o ≠ kS := fun z => by
      rw [z, hk2] at e2
      exact not_ints (hkf t) (HO.lst.inj (Option.some.inj e2))
    obtain ⟨z2, its, n, rv, hob⟩ := I2.hok kS _ hk2
    obtain rfl := refs_eq rv
    have hl1 : os.length < sizeLine := by omega
    refine wpAny_bind (listUpdate_at hob rfl ?_ (by rw [List.size_toArray, List.length_map]; omega) (by rw [Array.size_push, List.size_toArray, List.length_map]; omega))
    have sb := Heap.SameBut.update s2.heap kS (Obj.mapSeq (·.push (Value.ref o)))
    have ev : (os.map Value.ref).toArray.push (Value.ref o) = ((os ++ [o]).map Value.ref).toArray := by simp
    obtain ⟨n', hnew⟩ : ∃ n', (s2.heap.update kS (Obj.mapSeq (·.push (Value.ref o)))).get? kS = some (seqObj "list" ((os ++ [o]).map Value.ref).toArray n') := by
      rw [← ev]
      exact ⟨_, get?_update_seq (c := "list") hob (·.push (Value.ref o))⟩
    refine wpAny_pure ⟨rfl, upd H2 kS (.lst ((os ++ [o]).map V.ref)), os ++ [o], I2.write (x := kS) (e := kS) (by rw [hk2]; trivial) (.inl rfl) (fun d v hd e => (sb.2 d hd).trans e) ⟨_, hnew⟩ ⟨by rw [List.length_map, List.length_append]; exact hl1, _, _, refs_vals _, hnew⟩, fun d v e => ?_, upd_same, by rw [List.length_append, hos]; rfl, fun i d u hd hu => ?_⟩
    · rw [upd_ne (ne_of_none e hH)]
      exact s12 _ _ (sm d v e)
    · have hdk : H2 d = some (.lst (vn (kf u))) := by
        rcases Nat.lt_or_ge i os.length with hi | hi
        · rw [List.getElem?_append_left hi] at hd
          exact s12 _ _ (hall i d u hd hu)
        · rw [List.getElem?_append_right hi] at hd
          have e3 : i = j := by
            have := (List.getElem?_eq_some_iff.mp hd).1
            rw [List.length_singleton] at this
            omega
          subst e3
          rw [hos, Nat.sub_self] at hd
          rw [← show o = d from Option.some.inj hd, ← show t = u from Option.some.inj (htj.symm.trans hu)]
          exact e2
      have hne : d ≠ kS := fun z => by
        rw [z, hk2] at hdk
        exact not_ints (hkf u) (HO.lst.inj (Option.some.inj hdk))
      rw [upd_ne hne]
      exact hdk
  case after =>
    rintro s' ⟨H', os, I', sm, hk, hos, hall⟩
    rw [Nat.zero_add, List.length_map] at hos
    obtain ⟨z2, its, n, rv, hob⟩ := I'.hok kS _ hk
    obtain rfl := refs_eq rv
    have pa := I'.pin (a, _) (List.mem_append_right _ (List.mem_cons_self ..))
    obtain ⟨g, hg1, hg2⟩ := without_one s'.heap kS
    refine wpAny_bind (listItems_at hob rfl ?_)
    have rd : PySem.W.EachIs (fun v d => ∃ bs, Reads s'.heap v d bs) (os.map Value.ref) ((as.zip T).map fun x => dN (kf x.2)) := by
      refine each_at (by rw [List.length_map, List.length_map, hzip, hos]) fun i v d hv hd => ?_
      obtain ⟨o, ho, rfl⟩ := map_get hv
      obtain ⟨x, hx, rfl⟩ := map_get hd
      have hx2 := (List.getElem?_zip_eq_some.mp hx).2
      exact Dp.reads I' (dN (kf x.2)) (.ref o) (.ref o) (.lst (SqL.of (hall i o x.2 ho hx2)) (dpAll_vn _)) rfl
    have hal : PySem.W.AllAlike ((as.zip T).map fun x => dN (kf x.2)) := PySem.W.AllAlike.of (enc := fun x : Addr × List Nat => dN (kf x.2)) fun x y => by
      show PySem.W.alike (dN (kf x.2)) (dN (kf y.2)) = true
      rw [dN, dN, PySem.W.alike]
      exact alike_dN _ _
    have hsk : PySem.W.Sortable ((as.zip T).map fun x => dN (kf x.2)) := PySem.W.Sortable.others (enc := fun x : Addr × List Nat => dN (kf x.2)) fun x => ⟨(fun z => nomatch z), (fun xs z => nomatch z)⟩
    have hu : ∀ d, d ∈ ((as.zip T).map fun x => dN (kf x.2)) → A'.units + d.depth < cLine := fun d hd => by
      obtain ⟨x, _, rfl⟩ := List.mem_map.mp hd
      have h1 := depth_dN (kf x.2)
      have h2 := hr.un
      omega
    refine PySem.W.keyH_end (κ := PySem.W.dataKind s'.heap ((as.zip T).map fun x => dN (kf x.2))) (h₁ := g) (keys := (os.map Value.ref).toArray) (vs := as.map Value.ref) (fun d v hd e => ?_) hg1 hob pa.1 hka (by
      have := PySem.W.SortsAt.data (prog := X.prog) (w := X.w) (A := A') (s := s') rd hal hsk hu
      simpa using this) (by rw [List.size_toArray, List.length_map, List.length_map, hos]) (by rw [List.length_map]; exact hz) fun h3 tk c kb h3a => ?_
    · by_cases hdk : d = kS
      · rw [hdk, hg1] at e
        cases e
      · rw [hg2 d hdk] at e
        exact e
    · have ko : PySem.W.KeyedOut false ((as.zip T).map fun x => dN (kf x.2)) (as.map Value.ref) (PySem.W.sortVals (PySem.W.dataKind s'.heap ((as.zip T).map fun x => dN (kf x.2))) false (os.map Value.ref) (as.map Value.ref)) := ⟨s'.heap, os.map Value.ref, hal, rfl, rd⟩
      have eo := PySem.W.keyedOut_each (R := fun (u : Value) (x : Addr × List Nat) => u = Value.ref x.1) (fun x : Addr × List Nat => dN (kf x.2)) ko (each_at (by rw [List.length_map, hzip]) fun i v x hv hx => by
        obtain ⟨b, hbi, rfl⟩ := map_get hv
        have hx1 := (List.getElem?_zip_eq_some.mp hx).1
        rw [Option.some.inj (hbi.symm.trans hx1)])
      have eo2 := each_ref (g := fun x : Addr × List Nat => x.1) eo
      have hml : (((as.zip T).mergeSort (leB kf)).map fun x => x.1).length ≤ sizeLine := by
        rw [List.length_map, List.length_mergeSort, hzip]
        exact hz
      have h3b : h3.get? a = some (seqObj "list" ((((as.zip T).mergeSort (leB kf)).map fun x => x.1).map Value.ref).toArray c) := by
        rw [h3a]
        congr 2
        simpa [leB] using congrArg List.toArray eo2
      refine q _ _ (inv_sorted (tk := tk) I' fa fk hka hk (fun d v h1 h2 e => kb d v h1 (by rw [hg2 d h2]; exact e)) h3b hml) (fun d v e => ?_) ?_
      · have h1 : d ≠ kS := ne_of_none e hH
        have h2 : d ≠ a := ne_of_none (sm d v e) pa.2.1
        show (if d = kS then none else upd H' a _ d) = some v
        rw [if_neg h1, upd_ne h2]
        exact sm d v e
      · show (if a = kS then none else upd H' a _ a) = _
        rw [if_neg (Ne.symm hka), upd_same, List.map_map]
        rfl
/-- sorted(xs, key=f): the rows in the order of their keys -/
theorem sorted_by {k : Nat} {f l : Addr} {fd : FuncData} {sp : Sp} {kf : List Nat → List Nat} {as : List Addr} {T : List (List Nat)} {Q : VK}
    (F : FnOk X.prog X.w X.K X.mg X.base CX0 k f fd ["term"] sp) (hr : Room (k + 1 + 1) X.A) (hb : Binds X.K fd ["term"] []) (hsp : KeyDef X T kf sp) (hkf : ∀ t, kf t ≠ [])
    (I : Inv X pins σ H s) (hl : SqL X.K H l (as.map V.ref)) (hlen : as.length = T.length) (hat : ∀ (i : Nat) (b : Addr) (t : List Nat), as[i]? = some b → T[i]? = some t → SqL X.K H b (vn t))
    (q : ∀ (H' : Hp) (o : Addr), Same H H' → H' o = some (.lst (((as.zip T).mergeSort (leB kf)).map fun x => V.ref x.1)) → Q (.ref o) H') :
    wpAny (model X.prog X.w) X.A (call (.builtin "sorted") [.ref l] [(Str.ofString "key", .ref f)]) (EP X pins σ Q) X.xe s := by
  obtain ⟨its, rv, hpl, hz⟩ := I.list hl
  obtain rfl := refs_eq rv
  rw [List.length_map] at hz
  have hz2 : (as.map Value.ref).length ≤ sizeLine := by
    rw [List.length_map]
    exact hz
  refine PySem.W.sorted_of_sort hpl.isList hz2 (ksk_s1 _ _) (fun _ => ksk_l1 _ _) fun E' => ?_
  rw [ksk_t1]
  have hc := PySem.W.copyHeap_at s.heap (as.map Value.ref)
  have hcl : s.heap.objs.size + 1 < (PySem.W.copyHeap s.heap (as.map Value.ref)).objs.size := Heap.lt_size hc
  have hold : ∀ b o, s.heap.get? b = some o → (PySem.W.copyHeap s.heap (as.map Value.ref)).get? b = some o := fun b o e => PySem.W.copyHeap_old e
  obtain ⟨g, eg⟩ : ∃ g, g = PySem.W.copyHeap s.heap (as.map Value.ref) := ⟨_, rfl⟩
  rw [← eg] at hc hcl hold ⊢
  obtain ⟨oe, hoe⟩ : ∃ oe, (g.update (s.heap.objs.size + 1) (Obj.mapSeq fun _ => (#[] : Array Value))).get? (s.heap.objs.size + 1) = some (seqObj "list" #[] oe) := ⟨_, get?_update_seq hc fun _ => #[]⟩
  have sb := Heap.SameBut.update g (s.heap.objs.size + 1) (Obj.mapSeq fun _ => (#[] : Array Value))
  unfold ksk_tree
  refine wpAny_bind (listItems_at hc rfl (wpAny_bind (listUpdate_at hc rfl (wpAny_bind (seqEpoch_at hoe rfl (wpAny_bind (wpAny_newTuple (wpAny_bind (wpAny_newList (wpAny_holding ?_) (Nat.zero_le _))) (by simpa using hz))))) (by rw [List.size_toArray]; exact hz2) (Nat.zero_le _))))
  have fa : Fresh X pins (s.heap.objs.size + 1) := fresh_of I (Nat.le_succ _)
  obtain ⟨kS, ekS⟩ : ∃ kS, kS = ((g.update (s.heap.objs.size + 1) (Obj.mapSeq fun _ => (#[] : Array Value))).push (seqObj "tuple" (as.map Value.ref).toArray 0)).objs.size := ⟨_, rfl⟩
  have hkb : s.heap.objs.size + 1 < kS := by
    rw [ekS, size_push', Heap.size_update]
    omega
  have fk : Fresh X pins kS := fresh_of I (by omega)
  have hHk : H kS = none := I.hok.fresh (by omega)
  have hHa : H (s.heap.objs.size + 1) = none := I.hok.fresh (by omega)
  have keep : ∀ b o, s.heap.get? b = some o → (((g.update (s.heap.objs.size + 1) (Obj.mapSeq fun _ => (#[] : Array Value))).push (seqObj "tuple" (as.map Value.ref).toArray 0)).push (seqObj "list" #[] 0)).get? b = some o := fun b o e =>
    Heap.get?_push_of_some _ (Heap.get?_push_of_some _ ((sb.2 b (Nat.ne_of_lt (Nat.lt_succ_of_lt (Heap.lt_size e)))).trans (hold b o e)))
  have hkS : (((g.update (s.heap.objs.size + 1) (Obj.mapSeq fun _ => (#[] : Array Value))).push (seqObj "tuple" (as.map Value.ref).toArray 0)).push (seqObj "list" #[] 0)).get? kS = some (seqObj "list" #[] 0) := by
    rw [ekS]
    exact Heap.get?_push_size _ rfl
  have hSa : (((g.update (s.heap.objs.size + 1) (Obj.mapSeq fun _ => (#[] : Array Value))).push (seqObj "tuple" (as.map Value.ref).toArray 0)).push (seqObj "list" #[] 0)).get? (s.heap.objs.size + 1) = some (seqObj "list" #[] oe) := Heap.get?_push_of_some _ (Heap.get?_push_of_some _ hoe)
  have I1 := I.laid (t' := s.toks) (o := .lst []) keep (show s.heap.objs.size ≤ kS by omega) ⟨Nat.zero_le _, [], 0, .nil, hkS⟩
  have I2 : Inv X ((s.heap.objs.size + 1, seqObj "list" #[] oe) :: pins) σ (upd H kS (.lst [])) _ := I1.pins_of fun p hp => by
    rcases List.mem_cons.mp hp with rfl | hp
    · exact ⟨hSa, by rw [upd_ne (Nat.ne_of_lt hkb)]; exact hHa, fa.loc, fa.fs, fun v z => nomatch z⟩
    · exact I1.pin p (List.mem_append_right _ hp)
  have fin := rest_by (kS := kS) (a := s.heap.objs.size + 1) (E := E') (P := fun fi s' => fi = .done (.ret .none) ∧ EP X pins σ Q (.ref (s.heap.objs.size + 1)) s') F rfl hr.in1.in1 hb hsp hkf hlen hz hat fa fk (Nat.ne_of_gt hkb) hHk I2 fun H' s' I' sm ha => ⟨rfl, .ref _, H', I', rfl, q H' _ sm ha⟩
  rw [ekS] at fin
  exact fin
end
end Nz
set_option maxHeartbeats 1000000
namespace Nz
open PySem PySem.Spec PyProof.Rows L2
/-! ### the order of rows: any two are in order one way or the other -/
theorem rowLt_asym : ∀ {a b : List Nat}, rowLt a b = true → rowLt b a = false
  | [], [], h => by cases h
  | [], _ :: _, _ => rfl
  | _ :: _, [], h => by cases h
  | x :: a, y :: b, h => by
    rw [rowLt] at h ⊢
    by_cases e : x = y
    · rw [if_pos e] at h
      rw [if_pos e.symm]
      exact rowLt_asym h
    · rw [if_neg e, decide_eq_true_eq] at h
      rw [if_neg (fun z => e z.symm), decide_eq_false_iff_not]
      omega
theorem rowLt_neg : ∀ {a b c : List Nat}, rowLt b a = false → rowLt c b = false → rowLt c a = false
  | [], _, [], _, _ => rfl
  | _ :: _, [], _, h, _ => by cases h
  | _, _ :: _, [], _, h => by cases h
  | [], _, _ :: _, _, _ => rfl
  | x :: a, y :: b, z :: c, h1, h2 => by
    rw [rowLt] at h1 h2 ⊢
    by_cases e1 : y = x
    · rw [if_pos e1] at h1
      by_cases e2 : z = y
      · rw [if_pos e2] at h2
        rw [if_pos (e2.trans e1)]
        exact rowLt_neg h1 h2
      · rw [if_neg e2, decide_eq_false_iff_not] at h2
        rw [if_neg (by omega), decide_eq_false_iff_not]
        omega
    · rw [if_neg e1, decide_eq_false_iff_not] at h1
      by_cases e2 : z = y
      · rw [if_neg (by omega), decide_eq_false_iff_not]
        omega
      · rw [if_neg e2, decide_eq_false_iff_not] at h2
        rw [if_neg (by omega), decide_eq_false_iff_not]
        omega
theorem leB_is (kf : List Nat → List Nat) (x y : Addr × List Nat) : leB kf x y = !rowLt (kf y.2) (kf x.2) := by
  have e : PySem.W.dataLt (dN (kf y.2)) (dN (kf x.2)) = rowLt (kf y.2) (kf x.2) := (PySem.W.dataLt_list _ _).trans (lt_dN _ _)
  rw [← e]
  rfl
theorem sorted_pw (kf : List Nat → List Nat) (l : List (Addr × List Nat)) : (l.mergeSort (leB kf)).Pairwise fun x y => rowLt (kf y.2) (kf x.2) = false := by
  have h := List.pairwise_mergeSort (le := leB kf) (fun a b c h1 h2 => by
    rw [leB_is, Bool.not_eq_true'] at h1 h2 ⊢
    exact rowLt_neg h1 h2) (fun a b => by
    rw [leB_is, leB_is]
    cases e : rowLt (kf b.2) (kf a.2) with
    | false => rfl
    | true => rw [rowLt_asym e]; rfl) l
  exact h.imp fun {x y} e => by
    rw [leB_is, Bool.not_eq_true'] at e
    exact e
/-- the place of a term by its order -/
def plc (t : List Nat) : List Nat := Kzt1.total t.tail :: t.tail
theorem plc_ne (t : List Nat) : plc t ≠ [] := fun z => nomatch z
/-- what sorted leaves: the same rows, in their order -/
theorem sorted_rows {n : Nat} {H : Hp} {as : List Addr} {T : List (List Nat)} {o : Addr} (hR : Rows n T) (hlen : as.length = T.length) (hall : ∀ (i : Nat) (b : Addr) (t : List Nat), as[i]? = some b → T[i]? = some t → H b = some (.lst (vn t)))
    (ho : H o = some (.lst (((as.zip T).mergeSort (leB plc)).map fun x => V.ref x.1))) :
    ∃ G : List (List Nat), TTr H o G ∧ G.Perm T ∧ G.Pairwise fun a b => Kzt1.before b.tail a.tail = false := by
  have hp := List.mergeSort_perm (as.zip T) (leB plc)
  have hsnd : (as.zip T).map (·.2) = T := by
    rw [List.map_snd_zip]
    omega
  have hperm : (((as.zip T).mergeSort (leB plc)).map (·.2)).Perm T := by
    have := hp.map (·.2)
    rwa [hsnd] at this
  refine ⟨((as.zip T).mergeSort (leB plc)).map (·.2), ⟨((as.zip T).mergeSort (leB plc)).map (·.1), ?_, ?_, ?_⟩, hperm, ?_⟩
  · rw [ho, List.map_map]
    rfl
  · rw [List.length_map, List.length_map]
  · intro i b t hb ht
    obtain ⟨x, hx, rfl⟩ := map_get hb
    obtain ⟨y, hy, rfl⟩ := map_get ht
    have exy : x = y := Option.some.inj (hx.symm.trans hy)
    subst exy
    have hm : x ∈ as.zip T := hp.mem_iff.mp (List.mem_of_getElem? hx)
    obtain ⟨j, hj⟩ := List.getElem?_of_mem hm
    obtain ⟨h1, h2⟩ := List.getElem?_zip_eq_some.mp hj
    exact hall j x.1 x.2 h1 h2
  · refine List.pairwise_map.mpr (List.Pairwise.imp_of_mem (fun {x y} hx hy h => ?_) (sorted_pw plc (as.zip T)))
    have lx : x.2.length = n + 1 := hR _ (hperm.mem_iff.mp (List.mem_map_of_mem hx))
    have ly : y.2.length = n + 1 := hR _ (hperm.mem_iff.mp (List.mem_map_of_mem hy))
    rw [plc, plc, rowLt_before (by rw [List.length_tail, List.length_tail, lx, ly])] at h
    exact h
/-! ### sorted as a rule of the layer -/
def rSortBy (K : PySem.W.Frag) (f : Addr) (kf : List Nat → List Nat) : List V → List V → Hp → VK → Prop := fun vs zs H Q => ∃ (l : Addr) (as : List Addr) (T : List (List Nat)), vs = [.ref l] ∧ zs = [.ref f] ∧ SqL K H l (as.map V.ref) ∧ as.length = T.length ∧
  (∀ (i : Nat) (b : Addr) (t : List Nat), as[i]? = some b → T[i]? = some t → SqL K H b (vn t)) ∧ (∀ t ∈ T, t.length ≤ 1000) ∧
  ∀ (H' : Hp) (o : Addr), Same H H' → H' o = some (.lst (((as.zip T).mergeSort (leB kf)).map fun x => V.ref x.1)) → Q (.ref o) H'
theorem cr_sortBy {X : Cx} {k : Nat} {f : Addr} {fd : FuncData} {sp : Sp} {kf : List Nat → List Nat} (F : FnOk X.prog X.w X.K X.mg X.base CX0 k f fd ["term"] sp) (hr : Room (k + 1 + 1) X.A) (hb : Binds X.K fd ["term"] [])
    (hsp : ∀ T : List (List Nat), (∀ t ∈ T, t.length ≤ 1000) → KeyDef X T kf sp) (hkf : ∀ t, kf t ≠ []) : CallRK X (.builtin "sorted") [Str.ofString "key"] (rSortBy X.K f kf) := by
  intro pins s σ H vs zs us ws Q I r rz h
  obtain ⟨l, as, T, rfl, rfl, hl, hlen, hat, hT, q⟩ := h
  obtain rfl := Vals.ref1 r
  obtain rfl := Vals.ref1 rz
  exact sorted_by F hr hb (hsp T hT) hkf I hl hlen hat q
end Nz
set_option maxHeartbeats 1000000
/-! ### max(xs, default=0) of a list of natural numbers -/
namespace Nz
open PySem PySem.Spec PyProof.Rows L2
def rMaxD0 (K : PySem.W.Frag) : List V → List V → Hp → VK → Prop := fun vs zs H Q => ∃ (a : Addr) (ns : List Nat), vs = [.ref a] ∧ zs = [.int 0] ∧ SqL K H a (vn ns) ∧ Q (.int ((ns.foldl max 0 : Nat) : Int)) H
theorem depth_ints : ∀ l : List Nat, PyData.depthAll (l.map fun x : Nat => PyData.int (x : Int)) = 0
  | [] => rfl
  | x :: l => by
    rw [List.map_cons, PyData.depthAll, depth_ints l]
    rfl
theorem max_cast : ∀ (l : List Nat) (a : Nat), (l.map fun x : Nat => (x : Int)).foldl max (a : Int) = ((l.foldl max a : Nat) : Int)
  | [], _ => rfl
  | x :: l, a => by
    rw [List.map_cons, List.foldl_cons, List.foldl_cons, ← max_cast l (max a x)]
    congr 1
    omega
theorem alike_ints (l : List Nat) : PySem.W.AlikeAll (l.map fun x : Nat => PyData.int (x : Int)) := by
  refine ⟨fun a ha b hb => ?_, fun a ha z => ?_⟩
  · obtain ⟨x, _, rfl⟩ := List.mem_map.mp ha
    obtain ⟨y, _, rfl⟩ := List.mem_map.mp hb
    simp only [PySem.W.alike]
  · obtain ⟨x, _, rfl⟩ := List.mem_map.mp ha
    cases z
theorem cr_maxDef {X : Cx} (hc : X.calm = true) (hu : X.A.units + 64 < cLine) : CallRK X (.builtin "max") [Str.ofString "default"] (rMaxD0 X.K) := by
  intro pins s σ H vs zs us ws Q I r rz h
  obtain ⟨a, ns, rfl, rfl, hs, q⟩ := h
  obtain ⟨its, rv, hl, _⟩ := I.list hs
  obtain rfl := Vals.ref1 r
  obtain ⟨t, rfl⟩ : ∃ t, ws = [.int 0 t] := by
    cases rz with
    | cons h1 h2 =>
      cases h2
      obtain ⟨t, rfl⟩ := h1
      exact ⟨t, rfl⟩
  obtain ⟨as, rd⟩ := Dp.readsAll I (ns.map fun x : Nat => PyData.int (x : Int)) (vn ns) its (dpAll_vn ns) rv
  refine PySem.W.max_list_default (I.ok.hd hc) hl.isList (by simpa using rd) (alike_ints ns) (by rw [depth_ints]; omega) (fun e h' tk hk => ?_) (fun y ys i v h' tk bs e hi r2 hk => ?_)
  · have e2 : ns = [] := List.map_eq_nil_iff.mp e
    subst e2
    exact ⟨.int 0, H, I.kept hk, ⟨_, rfl⟩, q⟩
  · cases ns with
    | nil => cases e
    | cons x l =>
      rw [List.map_cons] at e
      injection e with e1 e2
      subst e1 e2
      rw [show (l.map fun x : Nat => PyData.int (x : Int)) = (l.map fun x : Nat => (x : Int)).map PyData.int by rw [List.map_map]; rfl, PySem.W.maxD_ints, max_cast] at r2
      refine ⟨.int ((l.foldl max x : Nat) : Int), H, I.kept hk, ?_, ?_⟩
      · cases r2
        exact ⟨_, rfl⟩
      · have : (x :: l).foldl max 0 = l.foldl max x := by rw [List.foldl_cons, Nat.zero_max]
        rw [this] at q
        exact q
end Nz
namespace Nz
open PySem PySem.Spec PyProof.Rows L2
/-- a list of rows, apart from where it stands -/
def TOn (H : Hp) (o : Addr) (G : List (List Nat)) : Prop := ∃ as : List Addr, H o = some (.lst (as.map V.ref)) ∧ as.length = G.length ∧ ∀ (i : Nat) (b : Addr) (t : List Nat), as[i]? = some b → G[i]? = some t → b ≠ o ∧ H b = some (.lst (vn t))
theorem TOn.tr {H : Hp} {o : Addr} {G : List (List Nat)} (h : TOn H o G) : TTr H o G := by
  obtain ⟨as, h1, h2, h3⟩ := h
  exact ⟨as, h1, h2, fun i b t hb ht => (h3 i b t hb ht).2⟩
/-- one row more -/
theorem TOn.more {H H2 : Hp} {o c : Addr} {G : List (List Nat)} {t : List Nat} {as : List Addr} (h1 : H2 o = some (.lst (as.map V.ref))) (h2 : as.length = G.length) (h3 : ∀ (i : Nat) (b : Addr) (t : List Nat), as[i]? = some b → G[i]? = some t → b ≠ o ∧ H2 b = some (.lst (vn t)))
    (hc : H2 c = some (.lst (vn t))) (hne : c ≠ o) : TOn (upd H2 o (.lst (as.map V.ref ++ [V.ref c]))) o (G ++ [t]) := by
  refine ⟨as ++ [c], ?_, ?_, fun j b u hb hu => ?_⟩
  · rw [upd_same, List.map_append]
    rfl
  · rw [List.length_append, List.length_append, h2]
    rfl
  · rcases Nat.lt_or_ge j as.length with hj | hj
    · rw [List.getElem?_append_left hj] at hb
      rw [List.getElem?_append_left (by omega)] at hu
      obtain ⟨g1, g2⟩ := h3 j b u hb hu
      refine ⟨g1, ?_⟩
      rw [upd_ne g1]
      exact g2
    · rw [List.getElem?_append_right hj] at hb
      have e3 : j = as.length := by
        have := (List.getElem?_eq_some_iff.mp hb).1
        rw [List.length_singleton] at this
        omega
      rw [List.getElem?_append_right (by omega)] at hu
      rw [e3, Nat.sub_self] at hb
      rw [e3, h2, Nat.sub_self] at hu
      rw [← show c = b from Option.some.inj hb, ← show t = u from Option.some.inj hu]
      refine ⟨hne, ?_⟩
      rw [upd_ne hne]
      exact hc
theorem cut_to {xs : List V} {i : Nat} (h : i ≤ xs.length) : cutV xs none (some (i : Int)) = xs.take i := by
  rw [cutV, HT.sIx_none, HT.sIx_nat, Nat.min_eq_left h, List.drop_zero, Nat.sub_zero]
theorem cut_from {xs : List V} {i : Nat} (h : i ≤ xs.length) : cutV xs (some (i : Int)) none = xs.drop i := by
  rw [cutV, HT.sIx_none, HT.sIx_nat, Nat.min_eq_left h]
  apply List.take_of_length_le
  rw [List.length_drop]
  exact Nat.le_refl _
/-- the same rows picked from both lists -/
theorem TTr.pick {H : Hp} {a o : Addr} {T : List (List Nat)} {as : List Addr} (i : Nat) (h2 : as.length = T.length) (h3 : ∀ (i : Nat) (b : Addr) (t : List Nat), as[i]? = some b → T[i]? = some t → H b = some (.lst (vn t)))
    (ho : H o = some (.lst ((as.take i).map V.ref ++ (as.drop (i + 1)).map V.ref))) : TTr H o (T.take i ++ T.drop (i + 1)) := by
  refine ⟨as.take i ++ as.drop (i + 1), by rw [ho, List.map_append], by rw [List.length_append, List.length_append, List.length_take, List.length_take, List.length_drop, List.length_drop, h2], fun j b t hb ht => ?_⟩
  have hl : (as.take i).length = (T.take i).length := by rw [List.length_take, List.length_take, h2]
  rcases Nat.lt_or_ge j (as.take i).length with hj | hj
  · rw [List.getElem?_append_left hj] at hb
    rw [List.getElem?_append_left (by omega)] at ht
    have hji : j < i := by rw [List.length_take] at hj; omega
    rw [List.getElem?_take_of_lt hji] at hb ht
    exact h3 j b t hb ht
  · rw [List.getElem?_append_right hj, List.getElem?_drop] at hb
    rw [List.getElem?_append_right (by omega), List.getElem?_drop, ← hl] at ht
    exact h3 _ b t hb ht
end Nz
namespace Nz
open PySem PySem.Spec PyProof.Rows L2
def topS (i : Nat) : Stmt := PySem.Challenge.pw_noughtsets_s06_least.main.body.getD i (.Pass ⟨0, 0, 0, 0⟩)
abbrev sIs : Stmt := topS 6
section
variable {P : Program} {w : World} {K : PySem.W.Frag} {mg : Str → Option Value} {base : Heap}
/-! ### is_space -/
theorem scIs : FnScope ["p", "n"] ["p", "n"] (defScope sIs) := ⟨rfl, rfl, rfl, by decide +kernel, rfl, by decide +kernel, by decide +kernel⟩
def spIs : Sp := fun vs H Q _ => ∃ (p n : Nat), vs = [.int (p : Int), .int (n : Int)] ∧ Q (.bl (Kzt1.okField p n)) H
theorem in_primes (p : Nat) : inV (.int (p : Int)) [.int 2, .int 3, .int 5, .int 7] = (p == 2 || p == 3 || p == 5 || p == 7) := by
  have e : ∀ k : Nat, ((k : Int) == (p : Int)) = (p == k) := fun k => by
    rw [Bool.eq_iff_iff, beq_iff_eq, beq_iff_eq]
    omega
  show ((2 : Int) == (p : Int) || ((3 : Int) == (p : Int) || ((5 : Int) == (p : Int) || ((7 : Int) == (p : Int) || false)))) = _
  rw [show ((2 : Int) == (p : Int)) = (p == 2) from e 2, show ((3 : Int) == (p : Int)) = (p == 3) from e 3, show ((5 : Int) == (p : Int)) = (p == 5) from e 5, show ((7 : Int) == (p : Int)) = (p == 7) from e 7, Bool.or_false, Bool.or_assoc, Bool.or_assoc]
theorem ok_is {f aP : Addr} {fd : FuncData} {k : Nat} {tM : Tok} (F : Fun K "is_space" "is_space" sIs f fd) (gP : mg "PRIMES" = some (.ref aP)) (hP : ∀ H : Hp, SqT K H aP [.int 2, .int 3, .int 5, .int 7]) (gM : mg "MOST_UNKNOWNS" = some (.int 3 tM)) : FnOk P w K mg base CX0 (k + 1) f fd ["p", "n"] spIs := by
  refine F.ok scIs (fun vs H Q E h => ?_) (fun cdv A outer s H vs Q E hr h => ?_)
  · obtain ⟨p, n, rfl, _⟩ := h
    rfl
  · obtain ⟨p, n, rfl, q⟩ := h
    refine ⟨_, pss_one (ps_ret (pe_and (pe_cmpR op_in_seq (pv 0) (pe_glob (v := .ref aP) rfl gP rfl) (by rfl)) (pe_and (pe_cmpR op_le pe_int (pv 1) (nomark _)) (pe_one (pe_cmpR op_le (pv 1) (pe_glob (v := .int 3) rfl gM ⟨_, rfl⟩) (nomark _)))))), ?_⟩
    refine ⟨_, rfl, aP, _, rfl, .inr (hP H), rfl, rfl, _, rfl, ?_⟩
    have e : Kzt1.okField p n = ((p == 2 || p == 3 || p == 5 || p == 7) && decide (1 ≤ n) && decide (n ≤ 3)) := rfl
    show if inV (.int (p : Int)) [.int 2, .int 3, .int 5, .int 7] = true then _ else _
    rw [in_primes]
    cases c1 : (p == 2 || p == 3 || p == 5 || p == 7) with
    | false =>
      rw [e, c1] at q
      exact iteF q
    | true =>
      refine iteT ⟨_, rfl, _, _, rfl, rfl, _, rfl, ?_⟩
      have e2 : decide ((1 : Int) ≤ (n : Int)) = decide (1 ≤ n) := decide_eq_decide.mpr (by omega)
      rw [e2]
      cases c2 : decide (1 ≤ n) with
      | false =>
        rw [e, c1, c2] at q
        exact iteF q
      | true =>
        refine iteT ⟨_, rfl, _, _, rfl, rfl, ?_⟩
        have e3 : decide ((n : Int) ≤ (3 : Int)) = decide (n ≤ 3) := decide_eq_decide.mpr (by omega)
        show Q (V.bl (decide ((n : Int) ≤ (3 : Int)))) H
        rw [e3]
        rw [e, c1, c2] at q
        exact q
end
end Nz
namespace Nz
open PySem PySem.Spec PyProof.Rows L2
abbrev sTp : Stmt := topS 8
section
variable {P : Program} {w : World} {K : PySem.W.Frag} {mg : Str → Option Value} {base : Heap}
/-! ### term_place -/
theorem scTp : FnScope ["term"] ["term"] (defScope sTp) := ⟨rfl, rfl, rfl, by decide +kernel, rfl, by decide +kernel, by decide +kernel⟩
def spTp (K : PySem.W.Frag) : Sp := fun vs H Q _ => ∃ (a : Addr) (t : List Nat), vs = [.ref a] ∧ SqL K H a (vn t) ∧ t.length ≤ 1000 ∧ ∀ (H' : Hp) (o : Addr), Same H H' → H' o = some (.lst (vn (Kzt1.total t.tail :: t.tail))) → Q (.ref o) H'
theorem ok_tp {f : Addr} {fd : FuncData} {k : Nat} (F : Fun K "term_place" "term_place" sTp f fd) (ms : mg "sum" = none) : FnOk P w K mg base CX0 (k + 1) f fd ["term"] (spTp K) := by
  refine F.ok scTp (fun vs H Q E h => ?_) (fun cdv A outer s H vs Q E hr h => ?_)
  · obtain ⟨a, t, rfl, _⟩ := h
    rfl
  · obtain ⟨a, t, rfl, hT, hlen, q⟩ := h
    refine ⟨_, pss_one (ps_ret (pe_op op_cat (pe_lst (pa_cons (pe_callB (cr_sum rfl) (by rfl) ms (by decide +kernel) (pa_cons (pe_slice sl_list (pv 0) (po_some pe_int) po_none) pa_nil)) pa_nil)) (pe_slice sl_list (pv 0) (po_some pe_int) po_none))), ?_⟩
    refine ⟨_, rfl, 1, rfl, a, _, rfl, hT, fun o no => ?_⟩
    rw [cut_tail]
    have s1 : Same H (upd H o (.lst (vn t.tail))) := same_upd no
    refine ⟨o, natI t.tail, rfl, SqL.of upd_same, (by show 1 ≤ sizeLine; decide), fun o2 no2 => ?_⟩
    have s2 := same_upd (o := .lst [.int (natI t.tail).sum]) no2
    refine ⟨_, rfl, 1, rfl, a, _, rfl, (s1.trans s2).seq hT, fun o3 no3 => ?_⟩
    rw [cut_tail]
    have s3 := same_upd (o := .lst (vn t.tail)) no3
    refine ⟨o2, o3, _, _, rfl, rfl, s3 _ _ upd_same, upd_same, ?_, fun o4 no4 => ?_⟩
    · rw [vn_len, List.length_tail]
      show 1 + (t.length - 1) ≤ sizeLine
      exact Nat.le_of_lt (small1000 (by omega))
    · refine q _ o4 (((s1.trans s2).trans s3).trans (same_upd no4)) ?_
      rw [upd_same, sum_natI]
      rfl
end
end Nz
namespace Nz
open PySem PySem.Spec PyProof.Rows L2
abbrev sPn : Stmt := topS 11
abbrev sCp : Stmt := topS 10
section
variable {P : Program} {w : World} {K : PySem.W.Frag} {mg : Str → Option Value} {base : Heap}
/-! ### count_points -/
theorem scCp : FnScope ["p", "n", "count", "k"] ["p", "n"] (defScope sCp) := ⟨rfl, rfl, rfl, by decide +kernel, rfl, by decide +kernel, by decide +kernel⟩
def spCp : Sp := fun vs H Q _ => ∃ (p n : Nat), vs = [.int (p : Int), .int (n : Int)] ∧ p ≤ 7 ∧ n ≤ 3 ∧ Q (.int (p ^ n : Nat)) H
theorem ok_cp {f : Addr} {fd : FuncData} {k : Nat} (F : Fun K "count_points" "count_points" sCp f fd) (mr : mg "range" = none) : FnOk P w K mg base CX0 (k + 1) f fd ["p", "n"] spCp := by
  refine F.ok scCp (fun vs H Q E h => ?_) (fun cdv A outer s H vs Q E hr h => ?_)
  · obtain ⟨p, n, rfl, _⟩ := h
    rfl
  · obtain ⟨p, n, rfl, hp, hn, q⟩ := h
    refine ⟨_, pss_cons (ps_set (i := 2) scCp.nd rfl (.inl rfl) pe_int)
      (pss_cons (ps_for PassesOwn.never rfl (pi_range1 (by rfl) mr (pa_cons (pv 1) pa_nil)) (pg_name (i := 3) scCp.nd rfl (.inl rfl))
        (pss_one (ps_set (i := 2) scCp.nd rfl (.inl rfl) (pe_op op_mul (pv 2) (pv 0)))))
      (pss_one (ps_ret (pv 2)))), ?_⟩
    refine ⟨_, rfl, _, rfl, by omega, by omega, ?_⟩
    refine for_range (lo := 0) (n := n) (fun i σ H' => H' = H ∧ ∃ v3, σ = [some (.int (p : Int)), some (.int (n : Int)), some (.int (p ^ i : Nat)), v3]) ⟨rfl, none, rfl⟩ ?_ ?_
    · rintro i σ H' hi ⟨rfl, v3, rfl⟩
      refine ⟨_, rfl, _, rfl, _, _, rfl, rfl, .inr ⟨by omega, by omega⟩, rfl, some (.int (0 + (i : Int))), ?_⟩
      rw [Nat.pow_succ, Int.natCast_mul]
      rfl
    · rintro σ H' ⟨rfl, v3, rfl⟩
      exact ⟨_, rfl, q⟩
/-! ### point_numbers -/
theorem scPn : FnScope ["p", "n", "x", "numbers", "rest", "k"] ["p", "n", "x"] (defScope sPn) := ⟨rfl, rfl, rfl, by decide +kernel, rfl, by decide +kernel, by decide +kernel⟩
def spPn : Sp := fun vs H Q _ => ∃ (p n x : Nat), vs = [.int (p : Int), .int (n : Int), .int (x : Int)] ∧ 1 < p ∧ p ≤ 7 ∧ n ≤ 3 ∧ ∀ (H' : Hp) (o : Addr), Same H H' → H o = none → H' o = some (.lst (vn (Kzt1.coords p n x))) → Q (.ref o) H'
theorem ok_pn {f : Addr} {fd : FuncData} {k : Nat} (F : Fun K "point_numbers" "point_numbers" sPn f fd) (mr : mg "range" = none) : FnOk P w K mg base CX0 (k + 1) f fd ["p", "n", "x"] spPn := by
  refine F.ok scPn (fun vs H Q E h => ?_) (fun cdv A outer s H vs Q E hr h => ?_)
  · obtain ⟨p, n, x, rfl, _⟩ := h
    rfl
  · obtain ⟨p, n, x, rfl, hp1, hp7, hn, q⟩ := h
    refine ⟨_, pss_cons (ps_set (i := 3) scPn.nd rfl (.inl rfl) (pe_lst pa_nil))
      (pss_cons (ps_set (i := 4) scPn.nd rfl (.inl rfl) (pv 2))
      (pss_cons (ps_for PassesOwn.never rfl (pi_range1 (by rfl) mr (pa_cons (pv 1) pa_nil)) (pg_name (i := 5) scPn.nd rfl (.inl rfl))
        (pss_cons (ps_expr (pe_bm PySem.F.plainAttrs_list PySem.F.slot_list_append PySem.F.type_list_append mt_append (pv 3) (pa_cons (pe_op op_mod (pv 4) (pv 0)) pa_nil)))
        (pss_one (ps_set (i := 4) scPn.nd rfl (.inl rfl) (pe_op op_fdiv (pv 4) (pv 0))))))
      (pss_one (ps_ret (pv 3))))), ?_⟩
    refine ⟨Nat.zero_le _, fun o no => ⟨_, rfl, ?_⟩⟩
    refine ⟨_, rfl, _, rfl, by omega, by omega, ?_⟩
    refine for_range (lo := 0) (n := n) (fun i σ H' => (∃ v5, σ = [some (.int (p : Int)), some (.int (n : Int)), some (.int (x : Int)), some (.ref o), some (.int (x / p ^ i : Nat)), v5]) ∧ Same H H' ∧ H' o = some (.lst (vn (Kzt1.coords p i x)))) ⟨⟨none, ?_⟩, same_upd no, upd_same⟩ ?_ ?_
    · rw [Nat.pow_zero, Nat.div_one]
      rfl
    · rintro i σ H' hi ⟨⟨v5, rfl⟩, sm, ho⟩
      have sz : (vn (Kzt1.coords p i x)).length < sizeLine := by
        rw [vn_len, coords_len]
        exact small1000 (by omega)
      refine ⟨_, rfl, .inl ⟨rfl, _, SqL.of ho⟩, _, rfl, _, rfl, _, _, rfl, rfl, (by show (0 : Int) < p; omega), o, _, _, rfl, rfl, ho, sz, ?_⟩
      refine ⟨_, rfl, _, rfl, _, _, rfl, rfl, ⟨by omega, by omega⟩, ⟨some (.int (0 + (i : Int))), ?_⟩, fun b z e => ?_, ?_⟩
      · rw [Nat.pow_succ, ← Nat.div_div_eq_div_mul, Int.natCast_ediv (x / p ^ i) p]
        rfl
      · rw [upd_ne (ne_of_none e no)]
        exact sm b z e
      · rw [upd_same, coords_snoc, vn_app]
        show _ = some (HO.lst (vn (Kzt1.coords p i x) ++ [V.int ((x / p ^ i % p : Nat) : Int)]))
        rw [Int.natCast_emod]
    · rintro σ H' ⟨⟨v5, rfl⟩, sm, ho⟩
      exact ⟨_, rfl, q H' o sm no ho⟩
end
end Nz
namespace Nz
open PySem PySem.Spec PyProof.Rows L2
abbrev sTv : Stmt := topS 12
section
variable {P : Program} {w : World} {K : PySem.W.Frag} {mg : Str → Option Value} {base : Heap}
/-! ### term_value -/
theorem scTv : FnScope ["p", "term", "point", "product", "k", "turn"] ["p", "term", "point"] (defScope sTv) := ⟨rfl, rfl, rfl, by decide +kernel, rfl, by decide +kernel, by decide +kernel⟩
def spTv (K : PySem.W.Frag) : Sp := fun vs H Q _ => ∃ (p : Nat) (a b : Addr) (t x : List Nat), vs = [.int (p : Int), .ref a, .ref b] ∧ SqL K H a (vn t) ∧ SqL K H b (vn x) ∧ t.length = x.length + 1 ∧ x.length ≤ 3 ∧ 1 < p ∧ p ≤ 7 ∧ (∀ y ∈ x, y < p) ∧ (∀ y ∈ t, y ≤ 12) ∧ Q (.int (tv p t x : Nat)) H
theorem zip_get {l r : List Nat} {i u v : Nat} (h1 : l[i]? = some u) (h2 : r[i]? = some v) : (l.zip r)[i]? = some (u, v) := by
  rw [List.getElem?_zip_eq_some]
  exact ⟨h1, h2⟩
theorem tvE_more {p c : Nat} {l : List (Nat × Nat)} {i : Nat} {u v : Nat} (h : l[i]? = some (u, v)) : tvE p (l.take (i + 1)) c = timesN p v u (tvE p (l.take i) c) := by
  rw [take_more h, tvE_app]
  rfl
theorem ok_tv {f : Addr} {fd : FuncData} {k : Nat} (F : Fun K "term_value" "term_value" sTv f fd) (mr : mg "range" = none) (ml : mg "len" = none) : FnOk P w K mg base CX0 (k + 1) f fd ["p", "term", "point"] (spTv K) := by
  refine F.ok scTv (fun vs H Q E h => ?_) (fun cdv A outer s H vs Q E hr h => ?_)
  · obtain ⟨p, a, b, t, x, rfl, _⟩ := h
    rfl
  · obtain ⟨p, a, b, t, x, rfl, hT, hX, hlen, hx3, hp1, hp7, hxp, ht, q⟩ := h
    refine ⟨_, pss_cons (ps_set (i := 3) scTv.nd rfl (.inl rfl) (pe_ix ix_list (pv 1) pe_int (fun _ _ => rfl)))
      (pss_cons (ps_for PassesOwn.never rfl (pi_range1 (by rfl) mr (pa_cons (pe_callB call_len_seq (by rfl) ml PySem.boot_len (pa_cons (pv 2) pa_nil)) pa_nil)) (pg_name (i := 4) scTv.nd rfl (.inl rfl))
        (pss_one (ps_for PassesOwn.never rfl (pi_range1 (by rfl) mr (pa_cons (pe_ix ix_list (pv 1) (pe_op op_add (pv 4) pe_int) (fun _ _ => rfl)) pa_nil)) (pg_name (i := 5) scTv.nd rfl (.inl rfl))
          (pss_one (ps_set (i := 3) scTv.nd rfl (.inl rfl) (pe_op op_mod (pe_op op_mul (pv 3) (pe_ix ix_list (pv 2) (pv 4) (fun _ _ => rfl))) (pv 0)))))))
      (pss_one (ps_ret (pv 3)))), ?_⟩
    obtain ⟨c, e, rfl⟩ : ∃ c e, t = c :: e := by
      cases t with
      | nil => simp at hlen
      | cons c e => exact ⟨c, e, rfl⟩
    have he : e.length = x.length := by simpa using hlen
    -- product = term[0]
    refine ⟨_, rfl, a, _, 0, .int (c : Int), rfl, rfl, hT, atI_nat (j := 0) rfl, ?_⟩
    -- for k in range(len(point))
    refine ⟨_, rfl, b, _, rfl, .inl hX, _, rfl, by rw [vn_len]; omega, by rw [vn_len]; omega, ?_⟩
    rw [vn_len]
    refine for_range (lo := 0) (n := x.length) (fun i σ H' => H' = H ∧ ∃ v4 v5, σ = [some (.int (p : Int)), some (.ref a), some (.ref b), some (.int (tvE p ((e.zip x).take i) c : Nat)), v4, v5]) ⟨rfl, none, none, rfl⟩ ?_ ?_
    · rintro i σ H' hi ⟨rfl, v4, v5, rfl⟩
      obtain ⟨y, hy⟩ : ∃ y, x[i]? = some y := ⟨x[i], List.getElem?_eq_getElem hi⟩
      obtain ⟨u, hu⟩ : ∃ u, e[i]? = some u := ⟨e[i]'(by omega), List.getElem?_eq_getElem (by omega)⟩
      have hym : y < p := hxp y (List.mem_of_getElem? hy)
      have hum : u ≤ 12 := ht u (List.mem_cons_of_mem _ (List.mem_of_getElem? hu))
      have hz : (e.zip x)[i]? = some (u, y) := zip_get hu hy
      have e1 : (0 : Int) + (i : Int) + 1 = ((i + 1 : Nat) : Int) := by omega
      refine ⟨_, rfl, _, rfl, _, _, rfl, rfl, a, _, _, .int (u : Int), rfl, rfl, hT, (by rw [e1]; exact atI_nat (vn_get (l := c :: e) (i := i + 1) hu)), _, rfl, by omega, by omega, ?_⟩
      refine for_range (lo := 0) (n := u) (fun j σ H2 => H2 = H' ∧ ∃ v5, σ = [some (.int (p : Int)), some (.ref a), some (.ref b), some (.int (timesN p y j (tvE p ((e.zip x).take i) c) : Nat)), some (.int (0 + (i : Int))), v5]) ⟨rfl, _, rfl⟩ ?_ ?_
      · rintro j σ H2 hj ⟨rfl, v5, rfl⟩
        have e2 : (0 : Int) + (i : Int) = ((i : Nat) : Int) := by omega
        refine ⟨_, rfl, _, rfl, _, rfl, b, _, _, .int (y : Int), rfl, rfl, hX, (by rw [e2]; exact atI_nat (vn_get hy)), _, _, rfl, rfl, .inr ⟨by omega, by omega⟩, _, rfl, _, _, rfl, rfl, by omega, rfl, some (.int (0 + (j : Int))), ?_⟩
        show _ = [some (V.int (p : Int)), some (V.ref a), some (V.ref b), some (V.int (timesN p y j (tvE p ((e.zip x).take i) c) * y % p : Nat)), some (V.int (0 + (i : Int))), some (V.int (0 + (j : Int)))]
        rw [Int.natCast_emod, Int.natCast_mul]
        rfl
      · rintro σ H2 ⟨rfl, v5, rfl⟩
        exact ⟨rfl, _, _, by rw [tvE_more hz]⟩
    · rintro σ H' ⟨rfl, v4, v5, rfl⟩
      refine ⟨_, rfl, ?_⟩
      rw [List.take_of_length_le (by rw [List.length_zip]; omega)]
      exact q
end
end Nz
namespace Nz
open PySem PySem.Spec PyProof.Rows L2
abbrev sDg : Stmt := topS 9
section
variable {P : Program} {w : World} {K : PySem.W.Frag} {mg : Str → Option Value} {base : Heap}
/-! ### degree -/
theorem scDg : FnScope ["terms", "term"] ["terms"] (defScope sDg) := ⟨rfl, rfl, rfl, by decide +kernel, rfl, by decide +kernel, by decide +kernel⟩
def spDg (K : PySem.W.Frag) : Sp := fun vs H Q _ => ∃ (a : Addr) (T : List (List Nat)), vs = [.ref a] ∧ TAt K H a T ∧ T.length ≤ 100000 ∧ ∀ (H' : Hp), Same H H' → Q (.int (degT T : Nat)) H'
theorem big_line : 1000000 < sizeLine := by decide
theorem ok_dg {f : Addr} {fd : FuncData} {k : Nat} (F : Fun K "degree" "degree" sDg f fd) (mm : mg "max" = none) (ms : mg "sum" = none) : FnOk P w K mg base CX0 (k + 1) f fd ["terms"] (spDg K) := by
  refine F.ok scDg (fun vs H Q E h => ?_) (fun cdv A outer s H vs Q E hr h => ?_)
  · obtain ⟨a, T, rfl, _⟩ := h
    rfl
  · obtain ⟨a, T, rfl, hT, hlen, q⟩ := h
    refine ⟨_, pss_one (ps_ret (pe_callBK (cr_maxDef rfl hr.units) (by rfl) mm (by decide +kernel) (pa_cons
      (pe_lc (own := [("term", 1)]) (g := gName 1) (tt := tYes) (te := tCB (rSum K) (tCons (tSl (rSlL K) (tVar 1) (tPart (tC (.int 1))) tNoPart) tNil)) rfl scDg.nd (pi_list (pv 0))
        (blkOk_by (own := [("term", 1)]) (N := ["terms", "term"]) (sc := defScope sDg) (by decide +kernel))
        (fun _ _ _ _ _ => pg_name (i := 1) scDg.nd rfl (Or.inl rfl)) (fun _ _ _ _ _ => pts_nil)
        (fun _ _ _ _ _ => pe_callB (cr_sum rfl) (by rfl) ms (by decide +kernel) (pa_cons (pe_slice sl_list (pv 1) (po_some pe_int) po_none) pa_nil))) pa_nil) (pk_cons pe_int pk_nil))), ?_⟩
    obtain ⟨as, h1, h2, h3⟩ := hT
    refine ⟨_, rfl, a, rfl, ⟨_, h1⟩, fun D hD => ?_⟩
    have s1 := same_upd (o := .lst []) hD
    refine lc_list (K := K) (a := a) (xs := as.map V.ref) (fun i H' => Same H H' ∧ H' D = some (.lst (vn ((T.take i).map fun t => Kzt1.total t.tail)))) ⟨s1, upd_same⟩ (fun i H' _ h => h.1.seq h1) ?_ ?_
    · rintro i y H' hi ⟨sm, hDl⟩
      obtain ⟨c, hc, rfl⟩ := map_get hi
      obtain ⟨t, hti⟩ := get_ex h2 hc
      refine ⟨rfl, _, rfl, 1, rfl, c, _, rfl, sm.seq (h3 i c t hc hti), fun o1 n1 => ?_⟩
      rw [cut_tail]
      have s2 := same_upd (o := .lst (vn t.tail)) n1
      refine ⟨o1, natI t.tail, rfl, SqL.of upd_same, _, s2 _ _ hDl, ?_, fun b z e => ?_, ?_⟩
      · have h4 := List.length_take_le' i T
        have h6 := big_line
        rw [vn_len, List.length_map]
        omega
      · rw [upd_ne (ne_of_none e hD)]
        exact s2 _ _ (sm b z e)
      · rw [upd_same, take_more hti, List.map_append, vn_app, sum_natI]
        rfl
    · rintro H' ⟨sm, hDl⟩
      rw [List.length_map, h2, List.take_length] at hDl
      exact ⟨D, _, rfl, rfl, SqL.of hDl, q H' sm⟩
end
end Nz
namespace Nz
open PySem PySem.Spec PyProof.Rows L2
abbrev sLw : Stmt := topS 15
section
variable {P : Program} {w : World} {K : PySem.W.Frag} {mg : Str → Option Value} {base : Heap}
/-! ### low_terms -/
theorem scLw : FnScope ["p", "n", "k"] ["p", "n"] (defScope sLw) := ⟨rfl, rfl, rfl, by decide +kernel, rfl, by decide +kernel, by decide +kernel⟩
def spLw : Sp := fun vs H Q _ => ∃ (p n : Nat), vs = [.int (p : Int), .int (n : Int)] ∧ 1 < p ∧ p ≤ 7 ∧ n ≤ 3 ∧ ∀ (H' : Hp) (o : Addr), Same H H' → TTr H' o (lowT p n) → Q (.ref o) H'
theorem key_lw (X : Cx) (T : List (List Nat)) (h : ∀ t ∈ T, t.length ≤ 1000) : KeyDef X T plc (spTp X.K) := fun b t H Q E ht hb q => ⟨b, t, rfl, hb, h t ht, q⟩
theorem pow_343 {p n : Nat} (hp : p ≤ 7) (h0 : 1 < p) (hn : n ≤ 3) : p ^ n ≤ 343 := Nat.le_trans (Nat.pow_le_pow_left hp n) (Nat.pow_le_pow_right (by omega) hn)
theorem rawT_get {p n i : Nat} (h : i < p ^ n) : (rawT p n)[i]? = some (1 :: Kzt1.coords p n i) := by
  rw [rawT, List.getElem?_map, List.getElem?_range h]
  rfl
theorem ok_lw {f fP fC fN : Addr} {fd dP dC dN : FuncData} {k : Nat} (F : Fun K "low_terms" "low_terms" sLw f fd) (FP : Fun K "term_place" "term_place" sTp fP dP) (bP : Binds K dP ["term"] []) (gP : mg "term_place" = some (.ref fP))
    (FC : Fun K "count_points" "count_points" sCp fC dC) (bC : Binds K dC ["p", "n"] []) (gC : mg "count_points" = some (.ref fC)) (FN : Fun K "point_numbers" "point_numbers" sPn fN dN) (bN : Binds K dN ["p", "n", "x"] []) (gN : mg "point_numbers" = some (.ref fN))
    (mr : mg "range" = none) (ms : mg "sum" = none) (mo : mg "sorted" = none) :
    FnOk P w K mg base CX0 (k + 1 + 1 + 1 + 1) f fd ["p", "n"] spLw := by
  have GP : FnOk P w K mg base CX0 (k + 1) fP dP ["term"] (spTp K) := ok_tp FP ms
  have GC : FnOk P w K mg base CX0 (k + 1 + 1 + 1) fC dC ["p", "n"] spCp := ok_cp FC mr
  have GN : FnOk P w K mg base CX0 (k + 1 + 1 + 1) fN dN ["p", "n", "x"] spPn := ok_pn FN mr
  refine F.ok scLw (fun vs H Q E h => ?_) (fun cdv A outer s H vs Q E hr h => ?_)
  · obtain ⟨p, n, rfl, _⟩ := h
    rfl
  · obtain ⟨p, n, rfl, hp1, hp7, hn, q⟩ := h
    refine ⟨_, pss_one (ps_ret (pe_callBK (cr_sortBy GP hr bP (key_lw _) plc_ne) (by rfl) mo (by decide +kernel) (pa_cons
      (pe_lc (own := [("k", 2)]) (g := gName 2) (tt := tYes) rfl scLw.nd (pi_range1 (by rfl) mr (pa_cons (pe_call GC hr (by rfl) gC FC.kp bC .nil pass0 (pa_cons (pv 0) (pa_cons (pv 1) pa_nil))) pa_nil))
        (blkOk_by (own := [("k", 2)]) (N := ["p", "n", "k"]) (sc := defScope sLw) (by decide +kernel))
        (fun _ _ _ _ _ => pg_name (i := 2) scLw.nd rfl (Or.inl rfl)) (fun _ _ _ _ _ => pts_nil)
        (fun _ _ _ _ _ => pe_op op_cat (pe_lst (pa_cons pe_int pa_nil)) (pe_call GN hr (by rfl) gN FN.kp bN .nil pass0 (pa_cons (pv 0) (pa_cons (pv 1) (pa_cons (pv 2) pa_nil)))))) pa_nil) (pk_cons (pe_glob (v := .ref fP) rfl gP rfl) pk_nil))), ?_⟩
    have h343 := pow_343 hp7 hp1 hn
    refine ⟨_, rfl, _, rfl, p, n, rfl, hp7, hn, _, rfl, by omega, by omega, ?_⟩
    rw [Int.toNat_natCast]
    refine fun D hD => ?_
    have s1 := same_upd (o := .lst []) hD
    refine lc_range (lo := 0) (n := p ^ n) (fun i H' => Same H H' ∧ TOn H' D ((rawT p n).take i)) ⟨s1, [], upd_same, rfl, fun i b t hb => by simp at hb⟩ ?_ ?_
    · rintro i H' hi ⟨sm, cs, c1, c2, c3⟩
      refine ⟨rfl, (by show 1 ≤ sizeLine; decide), fun o1 n1 => ?_⟩
      have s2 := same_upd (o := .lst [.int 1]) n1
      have e0 : (0 : Int) + (i : Int) = ((i : Nat) : Int) := by omega
      refine ⟨_, rfl, _, rfl, _, rfl, p, n, i, (by rw [e0]; rfl), hp1, hp7, hn, fun H2 o2 s3 n3 ho2 => ?_⟩
      refine ⟨o1, o2, _, _, rfl, rfl, s3 _ _ upd_same, ho2, ?_, fun o3 n4 => ?_⟩
      · rw [vn_len, coords_len]
        show 1 + n ≤ sizeLine
        exact Nat.le_of_lt (small1000 (by omega))
      · have s23 := s2.trans s3
        have s4 := same_upd (o := .lst ([.int 1] ++ vn (Kzt1.coords p n i))) n4
        have sA := s23.trans s4
        have hne : o3 ≠ D := (ne_of_none (s23 _ _ c1) n4).symm
        refine ⟨_, sA _ _ c1, ?_, fun b z hz => ?_, ?_⟩
        · have h4 := List.length_take_le' i (rawT p n)
          rw [rawT_len] at h4
          rw [List.length_map, c2]
          exact small1000 (by omega)
        · rw [upd_ne (ne_of_none hz hD)]
          exact sA _ _ (sm b z hz)
        · rw [take_more (rawT_get hi)]
          exact TOn.more (H := H) (sA _ _ c1) c2 (fun i b t hb ht => ⟨(c3 i b t hb ht).1, sA _ _ (c3 i b t hb ht).2⟩) (by rw [upd_same]; rfl) hne
    · rintro H' ⟨sm, hO⟩
      rw [List.take_of_length_le (by rw [rawT_len]; exact Nat.le_refl _)] at hO
      obtain ⟨as, h1, h2, h3⟩ := hO.tr
      refine ⟨D, as, rawT p n, rfl, rfl, SqL.of h1, h2, fun i b t hb ht => SqL.of (h3 i b t hb ht), fun t ht => ?_, fun H3 o s3 ho => ?_⟩
      · rw [rawT_rows p n t ht]
        omega
      · obtain ⟨G, hG, hperm, hpw⟩ := sorted_rows (H := H3) (rawT_rows p n) h2 (fun i b t hb ht => s3 _ _ (h3 i b t hb ht)) ho
        rw [low_is (by omega) hperm hpw] at hG
        exact q H3 o (sm.trans s3) hG
end
end Nz
namespace Nz
open PySem PySem.Spec PyProof.Rows L2
abbrev sJr : Stmt := topS 13
section
variable {P : Program} {w : World} {K : PySem.W.Frag} {mg : Str → Option Value} {base : Heap}
/-! ### joined_row -/
theorem scJr : FnScope ["terms", "row", "term"] ["terms"] (defScope sJr) := ⟨rfl, rfl, rfl, by decide +kernel, rfl, by decide +kernel, by decide +kernel⟩
def spJr : Sp := fun vs H Q _ => ∃ (a : Addr) (T : List (List Nat)) (n : Nat), vs = [.ref a] ∧ TTr H a T ∧ Rows n T ∧ n ≤ 3 ∧ T.length ≤ 100000 ∧ ∀ (H' : Hp) (o : Addr), Same H H' → H' o = some (.lst (vn T.flatten)) → Q (.ref o) H'
theorem flat_take {n : Nat} {T : List (List Nat)} (hR : Rows n T) (i : Nat) : (T.take i).flatten.length ≤ T.length * (n + 1) := by
  have h : Rows n (T.take i) := fun t ht => hR t (List.mem_of_mem_take ht)
  rw [flat_len h]
  exact Nat.mul_le_mul_right _ (List.length_take_le' i T)
theorem line_big : 1000000 < sizeLine := by decide
theorem ok_jr {f : Addr} {fd : FuncData} {k : Nat} (F : Fun K "joined_row" "joined_row" sJr f fd) : FnOk P w K mg base CX0 (k + 1) f fd ["terms"] spJr := by
  refine F.ok scJr (fun vs H Q E h => ?_) (fun cdv A outer s H vs Q E hr h => ?_)
  · obtain ⟨a, T, n, rfl, _⟩ := h
    rfl
  · obtain ⟨a, T, n, rfl, hT, hR, hn, hlen, q⟩ := h
    refine ⟨_, pss_cons (ps_set (i := 1) scJr.nd rfl (.inl rfl) (pe_lst pa_nil))
      (pss_cons (ps_for PassesOwn.never rfl (pi_list (pv 0)) (pg_name (i := 2) scJr.nd rfl (.inl rfl))
        (pss_one (ps_expr (pe_bm PySem.F.plainAttrs_list PySem.F.slot_list_extend PySem.F.type_list_extend mt_extend (pv 1) (pa_cons (pv 2) pa_nil)))))
      (pss_one (ps_ret (pv 1)))), ?_⟩
    obtain ⟨as, h1, h2, h3⟩ := hT
    refine ⟨Nat.zero_le _, fun o no => ?_⟩
    have s1 := same_upd (o := .lst []) no
    refine ⟨_, rfl, a, rfl, ⟨_, SqL.of (s1 _ _ h1)⟩, for_list (K := K) (a := a) (xs := as.map V.ref) (fun i σ H' => (∃ v2, σ = [some (.ref a), some (.ref o), v2]) ∧ Same H H' ∧ H' o = some (.lst (vn (T.take i).flatten))) ⟨⟨none, rfl⟩, s1, upd_same⟩ (fun i σ H' _ ⟨_, sm, _⟩ => SqL.of (sm _ _ h1)) ?_ ?_⟩
    · rintro i y σ H' hi ⟨⟨v2, rfl⟩, sm, ho⟩
      obtain ⟨c, hc, rfl⟩ := map_get hi
      obtain ⟨t, hti⟩ := get_ex h2 hc
      have htl := hR t (List.mem_of_getElem? hti)
      have hb := sm _ _ (h3 i c t hc hti)
      refine ⟨_, rfl, .inl ⟨rfl, _, SqL.of ho⟩, _, rfl, o, c, _, _, rfl, rfl, ho, hb, ?_, ⟨some (.ref c), rfl⟩, fun b z e => ?_, ?_⟩
      · have h4 := flat_take hR i
        have h5 : T.length * (n + 1) ≤ 100000 * 4 := Nat.mul_le_mul hlen (by omega)
        have h6 := line_big
        rw [vn_len, vn_len]
        omega
      · rw [upd_ne (ne_of_none e no)]
        exact sm b z e
      · rw [upd_same, take_more hti, List.flatten_append, vn_app]
        simp
    · rintro σ H' ⟨⟨v2, rfl⟩, sm, ho⟩
      rw [List.length_map, h2, List.take_length] at ho
      exact ⟨_, rfl, q H' o sm ho⟩
end
end Nz
namespace Nz
open PySem PySem.Spec PyProof.Rows L2
abbrev sIe : Stmt := topS 7
section
variable {P : Program} {w : World} {K : PySem.W.Frag} {mg : Str → Option Value} {base : Heap}
/-! ### is_set -/
theorem scIe : FnScope ["p", "n", "s", "k"] ["p", "n", "s"] (defScope sIe) := ⟨rfl, rfl, rfl, by decide +kernel, rfl, by decide +kernel, by decide +kernel⟩
def spIe (K : PySem.W.Frag) : Sp := fun vs H Q _ => ∃ (p n : Nat) (a : Addr) (l : List Nat), vs = [.int (p : Int), .int (n : Int), .ref a] ∧ SqL K H a (vn l) ∧ l.length ≤ 400 ∧ Q (.bl (isS p n l)) H
theorem ok_ie {f fIs fCp aP : Addr} {fd dIs dCp : FuncData} {tU : Tok} {k : Nat} (F : Fun K "is_set" "is_set" sIe f fd) (FIs : Fun K "is_space" "is_space" sIs fIs dIs) (bIs : Binds K dIs ["p", "n"] []) (gIs : mg "is_space" = some (.ref fIs)) (gP : mg "PRIMES" = some (.ref aP)) (hP : ∀ H : Hp, SqT K H aP [.int 2, .int 3, .int 5, .int 7]) (gU : mg "MOST_UNKNOWNS" = some (.int 3 tU))
    (FCp : Fun K "count_points" "count_points" sCp fCp dCp) (bCp : Binds K dCp ["p", "n"] []) (gCp : mg "count_points" = some (.ref fCp)) (mr : mg "range" = none) (ml : mg "len" = none) :
    FnOk P w K mg base CX0 (k + 1 + 1) f fd ["p", "n", "s"] (spIe K) := by
  have GIs : FnOk P w K mg base CX0 (k + 1) fIs dIs ["p", "n"] spIs := ok_is FIs gP hP gU
  have GCp : FnOk P w K mg base CX0 (k + 1) fCp dCp ["p", "n"] spCp := ok_cp FCp mr
  refine F.ok scIe (fun vs H Q E h => ?_) (fun cdv A outer s H vs Q E hr h => ?_)
  · obtain ⟨p, n, a, l, rfl, _⟩ := h
    rfl
  · obtain ⟨p, n, a, l, rfl, hF, hlen, q⟩ := h
    refine ⟨_, pss_cons (ps_if (pt_not (pt_val (pe_call GIs hr (by rfl) gIs FIs.kp bIs .nil pass0 (pa_cons (pv 0) (pa_cons (pv 1) pa_nil))))) (pss_one (ps_ret pe_bl)) pss_nil)
      (pss_cons (ps_for PassesOwn.never rfl (pi_range2 (by rfl) mr (pa_cons pe_int (pa_cons (pe_callB call_len_seq (by rfl) ml PySem.boot_len (pa_cons (pv 2) pa_nil)) pa_nil))) (pg_name (i := 3) scIe.nd rfl (.inl rfl))
        (pss_one (ps_if (pt_not (pt_cmpR op_lt (pe_ix ix_list (pv 2) (pe_op op_sub (pv 3) pe_int) (fun _ _ => rfl)) (pe_ix ix_list (pv 2) (pv 3) (fun _ _ => rfl)) (nomark _))) (pss_one (ps_ret pe_bl)) pss_nil)))
      (pss_one (ps_ret (pe_or (pe_cmpR op_eq (pe_callB call_len_seq (by rfl) ml PySem.boot_len (pa_cons (pv 2) pa_nil)) pe_int (nomark _))
        (pe_one (pe_cmpR op_lt (pe_ix ix_list (pv 2) (pe_op op_sub (pe_callB call_len_seq (by rfl) ml PySem.boot_len (pa_cons (pv 2) pa_nil)) pe_int) (fun _ _ => rfl)) (pe_call GCp hr (by rfl) gCp FCp.kp bCp .nil pass0 (pa_cons (pv 0) (pa_cons (pv 1) pa_nil))) (nomark _))))))), ?_⟩
    refine ⟨_, rfl, _, rfl, p, n, rfl, _, rfl, ?_⟩
    cases ok : Kzt1.okField p n with
    | false =>
      rw [isS_no ok] at q
      exact q
    | true =>
      obtain ⟨hp1, hp7⟩ := okField_p ok
      obtain ⟨hn1, hn3⟩ := okField_n ok
      refine ⟨_, rfl, a, _, rfl, .inl hF, 1, (l.length : Int), by rw [vn_len], ⟨by omega, by omega, by omega, by omega⟩, ?_⟩
      have en : ((l.length : Int) - 1).toNat = l.length - 1 := by omega
      rw [en]
      refine for_range (lo := 1) (n := l.length - 1) (fun i σ H' => H' = H ∧ (∃ v3, σ = [some (.int (p : Int)), some (.int (n : Int)), some (.ref a), v3]) ∧ ∀ (j x y : Nat), j < i → l[j]? = some x → l[j + 1]? = some y → x < y) ⟨rfl, ⟨none, rfl⟩, fun j x y hj => by omega⟩ ?_ ?_
      · rintro i σ H' hi ⟨rfl, ⟨v3, rfl⟩, hall⟩
        obtain ⟨x, hx⟩ : ∃ x, l[i]? = some x := ⟨l[i]'(by omega), List.getElem?_eq_getElem (by omega)⟩
        obtain ⟨y, hy⟩ : ∃ y, l[i + 1]? = some y := ⟨l[i + 1]'(by omega), List.getElem?_eq_getElem (by omega)⟩
        have ab : atI (vn l) ((1 : Int) + (i : Int) - 1) = some (V.int (x : Int)) := by
          rw [show (1 : Int) + (i : Int) - 1 = ((i : Nat) : Int) by omega]
          exact atI_nat (vn_get hx)
        have ac : atI (vn l) ((1 : Int) + (i : Int)) = some (V.int (y : Int)) := by
          rw [show (1 : Int) + (i : Int) = ((i + 1 : Nat) : Int) by omega]
          exact atI_nat (vn_get hy)
        refine ⟨_, rfl, _, rfl, _, _, rfl, rfl, a, _, _, _, rfl, rfl, hF, ab, _, rfl, _, rfl, a, _, _, _, rfl, rfl, hF, ac, _, _, rfl, rfl, _, rfl, ?_⟩
        by_cases hxy : x < y
        · rw [decide_eq_true (show (x : Int) < (y : Int) by omega)]
          refine ⟨rfl, ⟨_, rfl⟩, fun j x' y' hj hx' hy' => ?_⟩
          rcases Nat.lt_or_ge j i with h | h
          · exact hall j x' y' h hx' hy'
          · have ej : j = i := by omega
            subst ej
            rw [← Option.some.inj (hx.symm.trans hx'), ← Option.some.inj (hy.symm.trans hy')]
            exact hxy
        · rw [decide_eq_false (show ¬ (x : Int) < (y : Int) by omega)]
          have er : Kzt1.rising l = false := by
            cases z : Kzt1.rising l with
            | false => rfl
            | true => exact absurd ((rising_iff l).mp z i x y hx hy) hxy
          rw [isS_low er] at q
          exact q
      · rintro σ H' ⟨rfl, ⟨v3, rfl⟩, hall⟩
        have er : Kzt1.rising l = true := (rising_iff l).mpr fun i x y hx hy => hall i x y (by
          have := (List.getElem?_eq_some_iff.mp hy).1
          omega) hx hy
        refine ⟨_, rfl, a, _, rfl, .inl hF, rfl, _, rfl, ?_⟩
        rw [vn_len]
        by_cases h0 : l.length = 0
        · have e0 : l = [] := List.eq_nil_of_length_eq_zero h0
          subst e0
          rw [isS_nil ok] at q
          exact iteT q
        · rw [show decide (V.int (l.length : Int) = V.int 0) = false from decide_eq_false fun z => h0 (by
            have := V.int.inj z
            omega)]
          obtain ⟨z, hz⟩ : ∃ z, l[l.length - 1]? = some z := ⟨l[l.length - 1]'(by omega), List.getElem?_eq_getElem (by omega)⟩
          have az : atI (vn l) ((l.length : Int) - 1) = some (V.int (z : Int)) := by
            rw [show (l.length : Int) - 1 = ((l.length - 1 : Nat) : Int) by omega]
            exact atI_nat (vn_get hz)
          refine iteF ⟨_, rfl, _, rfl, a, _, rfl, .inl hF, _, _, rfl, rfl, a, _, _, _, rfl, rfl, hF, (by rw [vn_len]; exact az), _, rfl, _, rfl, p, n, rfl, hp7, hn3, _, _, rfl, rfl, ?_⟩
          rw [isS_last ok er hz] at q
          show Q (V.bl (decide ((z : Int) < ((p ^ n : Nat) : Int)))) _
          rw [show decide ((z : Int) < ((p ^ n : Nat) : Int)) = decide (z < p ^ n) from decide_eq_decide.mpr (by omega)]
          exact q
end
end Nz
namespace Nz
open PySem PySem.Spec PyProof.Rows L2
abbrev sTq : Stmt := topS 16
section
variable {P : Program} {w : World} {K : PySem.W.Frag} {mg : Str → Option Value} {base : Heap}
/-! ### term_values -/
theorem scTq : FnScope ["p", "terms", "point", "term"] ["p", "terms", "point"] (defScope sTq) := ⟨rfl, rfl, rfl, by decide +kernel, rfl, by decide +kernel, by decide +kernel⟩
def spTq (K : PySem.W.Frag) : Sp := fun vs H Q _ => ∃ (p : Nat) (a b : Addr) (T : List (List Nat)) (x : List Nat), vs = [.int (p : Int), .ref a, .ref b] ∧ TAt K H a T ∧ SqL K H b (vn x) ∧ Rows x.length T ∧ T.length ≤ 1000 ∧ x.length ≤ 3 ∧ 1 < p ∧ p ≤ 7 ∧ (∀ y ∈ x, y < p) ∧ (∀ t ∈ T, ∀ y ∈ t, y ≤ 12) ∧
  ∀ (H' : Hp) (o : Addr), Same H H' → H o = none → H' o = some (.lst (vn (T.map fun t => tv p t x))) → Q (.ref o) H'
theorem ok_tq {f fT : Addr} {fd dT : FuncData} {k : Nat} (F : Fun K "term_values" "term_values" sTq f fd) (FT : Fun K "term_value" "term_value" sTv fT dT) (bT : Binds K dT ["p", "term", "point"] []) (gT : mg "term_value" = some (.ref fT)) (mr : mg "range" = none) (ml : mg "len" = none) :
    FnOk P w K mg base CX0 (k + 1 + 1) f fd ["p", "terms", "point"] (spTq K) := by
  have GT : FnOk P w K mg base CX0 (k + 1) fT dT ["p", "term", "point"] (spTv K) := ok_tv FT mr ml
  refine F.ok scTq (fun vs H Q E h => ?_) (fun cdv A outer s H vs Q E hr h => ?_)
  · obtain ⟨p, a, b, T, x, rfl, _⟩ := h
    rfl
  · obtain ⟨p, a, b, T, x, rfl, hT, hX, hR, hlen, hx3, hp1, hp7, hxp, ht, q⟩ := h
    refine ⟨_, pss_one (ps_ret (pe_lc (own := [("term", 3)]) (g := gName 3) (tt := tYes) rfl scTq.nd (pi_list (pv 1))
        (blkOk_by (own := [("term", 3)]) (N := ["p", "terms", "point", "term"]) (sc := defScope sTq) (by decide +kernel))
        (fun _ _ _ _ _ => pg_name (i := 3) scTq.nd rfl (Or.inl rfl)) (fun _ _ _ _ _ => pts_nil)
        (fun _ _ _ _ _ => pe_call GT hr (by rfl) gT FT.kp bT .nil pass0 (pa_cons (pv 0) (pa_cons (pv 3) (pa_cons (pv 2) pa_nil)))))), ?_⟩
    obtain ⟨as, h1, h2, h3⟩ := hT
    refine ⟨_, rfl, a, rfl, ⟨_, h1⟩, fun D hD => ?_⟩
    have s1 := same_upd (o := .lst []) hD
    refine lc_list (K := K) (a := a) (xs := as.map V.ref) (fun i H' => Same H H' ∧ H' D = some (.lst (vn ((T.take i).map fun t => tv p t x)))) ⟨s1, upd_same⟩ (fun i H' _ h => h.1.seq h1) ?_ ?_
    · rintro i y H' hi ⟨sm, hDl⟩
      obtain ⟨c, hc, rfl⟩ := map_get hi
      obtain ⟨t, hti⟩ := get_ex h2 hc
      have htm := List.mem_of_getElem? hti
      refine ⟨rfl, _, rfl, _, rfl, _, rfl, p, c, b, t, x, rfl, sm.seq (h3 i c t hc hti), sm.seq hX, hR t htm, hx3, hp1, hp7, hxp, ht t htm, _, hDl, ?_, fun b z e => ?_, ?_⟩
      · have h4 := List.length_take_le' i T
        rw [vn_len, List.length_map]
        exact small1000 (by omega)
      · rw [upd_ne (ne_of_none e hD)]
        exact sm b z e
      · rw [upd_same, take_more hti, List.map_append, vn_app]
        rfl
    · rintro H' ⟨sm, hDl⟩
      rw [List.length_map, h2, List.take_length] at hDl
      exact q H' D sm hD hDl
end
end Nz
namespace Nz
open PySem PySem.Spec PyProof.Rows L2
abbrev sFn : Stmt := topS 18
abbrev sSc : Stmt := topS 19
abbrev sSh : Stmt := topS 20
section
variable {P : Program} {w : World} {K : PySem.W.Frag} {mg : Str → Option Value} {base : Heap}
/-! ### first_not_nought -/
theorem scFn : FnScope ["rows", "place"] ["rows"] (defScope sFn) := ⟨rfl, rfl, rfl, by decide +kernel, rfl, by decide +kernel, by decide +kernel⟩
def spFn (K : PySem.W.Frag) : Sp := fun vs H Q _ => ∃ (a : Addr) (T : List (List Nat)), vs = [.ref a] ∧ TAt K H a T ∧ (∀ t ∈ T, 1 ≤ t.length) ∧
  ∀ i : Nat, i ≤ T.length → (∀ (j : Nat) (t : List Nat), j < i → T[j]? = some t → t.headD 0 = 0) → (∀ t : List Nat, T[i]? = some t → t.headD 0 ≠ 0) → Q (.int (i : Int)) H
def muFn (n : Nat) : L2.St → Hp → Nat := fun σ _ => match σ with
  | [_, some (.int i)] => n - i.toNat
  | _ => 0
theorem ok_fn {f : Addr} {fd : FuncData} {k : Nat} (F : Fun K "first_not_nought" "first_not_nought" sFn f fd) (ml : mg "len" = none) : FnOk P w K mg base CX0 (k + 1) f fd ["rows"] (spFn K) := by
  refine F.ok scFn (fun vs H Q E h => ?_) (fun cdv A outer s H vs Q E hr h => ?_)
  · obtain ⟨a, T, rfl, _⟩ := h
    rfl
  · obtain ⟨a, T, rfl, hT, hpos, q⟩ := h
    refine ⟨_, pss_cons (ps_set (i := 1) scFn.nd rfl (.inl rfl) pe_int)
      (pss_cons (ps_while PassesOwn.never (PW.pt (pw_and (pt_cmpR op_lt (pv 1) (pe_callB call_len_seq (by rfl) ml PySem.boot_len (pa_cons (pv 0) pa_nil)) (nomark _))
          (pw_and1 (pt_cmpR op_eq (pe_ix ix_list (pe_ix ix_list (pv 0) (pv 1) (fun _ _ => rfl)) pe_int (fun _ _ => rfl)) pe_int (nomark _)))))
        (pss_one (ps_set (i := 1) scFn.nd rfl (.inl rfl) (pe_op op_add (pv 1) pe_int))))
      (pss_one (ps_ret (pv 1)))), ?_⟩
    obtain ⟨as, h1, h2, h3⟩ := hT
    have el : (as.map V.ref).length = T.length := by rw [List.length_map, h2]
    refine while_by (fun σ H' => H' = H ∧ ∃ i : Nat, σ = [some (.ref a), some (.int (i : Int))] ∧ i ≤ T.length ∧ ∀ (j : Nat) (t : List Nat), j < i → T[j]? = some t → t.headD 0 = 0) (muFn T.length) ⟨rfl, 0, rfl, Nat.zero_le _, fun j t hj => by omega⟩ ?_ ?_
    · rintro σ H' ⟨rfl, i, rfl, hi, hall⟩
      refine ⟨_, rfl, _, rfl, a, _, rfl, .inl h1, _, _, rfl, rfl, _, rfl, ?_⟩
      rw [el]
      by_cases hlt : i < T.length
      · rw [decide_eq_true (show (i : Int) < (T.length : Int) by omega)]
        obtain ⟨t, hti⟩ : ∃ t, T[i]? = some t := ⟨T[i], List.getElem?_eq_getElem hlt⟩
        obtain ⟨b, hb⟩ := get_ex h2.symm hti
        obtain ⟨x, r, rfl⟩ : ∃ x r, t = x :: r := by
          have := hpos t (List.mem_of_getElem? hti)
          cases t with
          | nil => simp at this
          | cons x r => exact ⟨x, r, rfl⟩
        refine iteT ⟨_, rfl, _, rfl, a, _, _, _, rfl, rfl, h1, atI_nat (j := i) (by rw [List.getElem?_map, hb]; rfl), b, _, 0, .int (x : Int), rfl, rfl, h3 i b _ hb hti, atI_nat (j := 0) rfl, rfl, _, rfl, ?_⟩
        by_cases hx : x = 0
        · rw [show decide (V.int (x : Int) = V.int 0) = true from decide_eq_true (by rw [hx]; rfl)]
          refine iteT ⟨_, rfl, _, _, rfl, rfl, ⟨rfl, i + 1, rfl, hlt, fun j t' hj ht' => ?_⟩, ?_⟩
          · rcases Nat.lt_or_ge j i with h | h
            · exact hall j t' h ht'
            · have ej : j = i := by omega
              subst ej
              rw [← Option.some.inj (hti.symm.trans ht')]
              exact hx
          · show T.length - ((i : Int) + 1).toNat < T.length - (i : Int).toNat
            omega
        · rw [show decide (V.int (x : Int) = V.int 0) = false from decide_eq_false fun z => hx (by
            have := V.int.inj z
            omega)]
          refine iteF ⟨_, rfl, q i hi hall fun t' ht' => ?_⟩
          rw [← Option.some.inj (hti.symm.trans ht')]
          exact hx
      · rw [decide_eq_false (show ¬ (i : Int) < (T.length : Int) by omega)]
        refine iteF ⟨_, rfl, q i hi hall fun t' ht' => ?_⟩
        have := (List.getElem?_eq_some_iff.mp ht').1
        omega
    · rintro σ H' Q1 Q2 h ⟨a1, e1, a2, e2, a3, a4, e3, e4, i, j, hi, hj, b, hb, q⟩
      refine ⟨a1, e1, a2, e2, a3, a4, e3, e4, i, j, hi, hj, b, hb, ?_⟩
      cases b with
      | true =>
        obtain ⟨b1, f1, b2, f2, b3, b4, b5, b6, f3, f4, f5, f6, c1, c2, c3, c4, g1, g2, g3, g4, g5, d, hd, q⟩ := q
        exact ⟨b1, f1, b2, f2, b3, b4, b5, b6, f3, f4, f5, f6, c1, c2, c3, c4, g1, g2, g3, g4, g5, d, hd, h _ _ q⟩
      | false => exact h _ _ q
/-! ### scaled_row -/
theorem scSc : FnScope ["p", "row", "inverse", "number"] ["p", "row"] (defScope sSc) := ⟨rfl, rfl, rfl, by decide +kernel, rfl, by decide +kernel, by decide +kernel⟩
def spSc (K : PySem.W.Frag) : Sp := fun vs H Q _ => ∃ (p : Nat) (a : Addr) (r : List Nat), vs = [.int (p : Int), .ref a] ∧ SqL K H a (vn r) ∧ r.length ≤ 1000 ∧ Prime4 p ∧ r.headD 0 ≠ 0 ∧ (∀ y ∈ r, y < p) ∧
  ∀ (v : Nat) (H' : Hp) (o : Addr), v * r.headD 0 % p = 1 → Same H H' → H' o = some (.lst (vn (scaled p v r))) → Q (.ref o) H'
def muSc (n : Nat) : L2.St → Hp → Nat := fun σ _ => match σ with
  | [_, _, some (.int i), _] => n - i.toNat
  | _ => 0
theorem ok_sc {f : Addr} {fd : FuncData} {k : Nat} (F : Fun K "scaled_row" "scaled_row" sSc f fd) : FnOk P w K mg base CX0 (k + 1) f fd ["p", "row"] (spSc K) := by
  refine F.ok scSc (fun vs H Q E h => ?_) (fun cdv A outer s H vs Q E hr h => ?_)
  · obtain ⟨p, a, r, rfl, _⟩ := h
    rfl
  · obtain ⟨p, a, r, rfl, hA, hlen, hpr, h0, hlow, q⟩ := h
    refine ⟨_, pss_cons (ps_set (i := 2) scSc.nd rfl (.inr rfl) pe_int)
      (pss_cons (ps_while PassesOwn.never (pt_cmpR op_ne (pe_op op_mod (pe_op op_mul (pv 2) (pe_ix ix_list (pv 1) pe_int (fun _ _ => rfl))) (pv 0)) pe_int (nomark _))
        (pss_one (ps_set (i := 2) scSc.nd rfl (.inr rfl) (pe_op op_add (pv 2) pe_int))))
      (pss_one (ps_ret (pe_lc (own := [("number", 3)]) (g := gName 3) (tt := tYes) rfl scSc.nd (pi_list (pv 1))
        (blkOk_by (own := [("number", 3)]) (N := ["p", "row", "inverse", "number"]) (sc := defScope sSc) (by decide +kernel))
        (fun _ _ _ _ _ => pg_name (i := 3) scSc.nd rfl (Or.inl rfl)) (fun _ _ _ _ _ => pts_nil)
        (fun _ _ _ _ _ => pe_op op_mod (pe_op op_mul (pv 2) (pv 3)) (pv 0)))))), ?_⟩
    obtain ⟨x, e, rfl⟩ : ∃ x e, r = x :: e := by
      cases r with
      | nil => exact absurd rfl h0
      | cons x e => exact ⟨x, e, rfl⟩
    have hp1 := hpr.gt
    have hp7 : p ≤ 7 := by rcases hpr with h | h | h | h <;> omega
    have hxp : x < p := hlow x (List.mem_cons_self ..)
    have hx0 : x ≠ 0 := h0
    have hinv := inv_is hpr hx0 hxp
    obtain ⟨m, em⟩ : ∃ m, m = Kzt1.inv p x := ⟨_, rfl⟩
    rw [← em] at hinv
    have hm0 : 1 ≤ m := by
      rcases Nat.eq_zero_or_pos m with h | h
      · rw [h, Nat.mul_zero, Nat.zero_mod] at hinv
        omega
      · exact h
    refine while_by (fun σ H' => H' = H ∧ ∃ i : Nat, σ = [some (.int (p : Int)), some (.ref a), some (.int (i : Int)), none] ∧ i ≤ m) (muSc (m + 1)) ⟨rfl, 1, rfl, hm0⟩ ?_ ?_
    · rintro σ H' ⟨rfl, i, rfl, hi⟩
      refine ⟨_, rfl, _, rfl, a, _, 0, .int (x : Int), rfl, rfl, hA, atI_nat (j := 0) rfl, _, _, rfl, rfl, .inr ⟨by omega, by omega⟩, _, rfl, _, _, rfl, rfl, (by show (0 : Int) < p; omega), rfl, _, rfl, ?_⟩
      have ec : ((i : Int) * (x : Int) % (p : Int)) = ((i * x % p : Nat) : Int) := by rw [Int.natCast_emod, Int.natCast_mul]
      by_cases hv : i * x % p = 1
      · rw [show decide (V.int ((i : Int) * (x : Int) % (p : Int)) = V.int 1) = true from decide_eq_true (by rw [ec, hv]; rfl)]
        refine iteF ?_
        refine ⟨_, rfl, a, rfl, ⟨_, hA⟩, fun D hD => ?_⟩
        have s1 := same_upd (o := .lst []) hD
        refine lc_list (K := K) (a := a) (xs := vn (x :: e)) (fun j H2 => Same H' H2 ∧ H2 D = some (.lst (vn (scaled p i ((x :: e).take j))))) ⟨s1, upd_same⟩ (fun j H2 _ h => h.1.seq hA) ?_ ?_
        · rintro j y H2 hj ⟨sm, hDl⟩
          obtain ⟨z, hz, rfl⟩ := map_get (l := natI (x :: e)) hj
          obtain ⟨u, hu, rfl⟩ := map_get (l := x :: e) hz
          have hup := hlow u (List.mem_of_getElem? hu)
          refine ⟨rfl, _, rfl, _, rfl, _, _, rfl, rfl, .inr ⟨by omega, by omega⟩, _, rfl, _, _, rfl, rfl, (by show (0 : Int) < p; omega), _, hDl, ?_, fun b z e => ?_, ?_⟩
          · have h4 := List.length_take_le' j (x :: e)
            rw [vn_len, scaled, List.length_map]
            exact small1000 (by omega)
          · rw [upd_ne (ne_of_none e hD)]
            exact sm b z e
          · rw [upd_same, take_more hu, scaled, scaled, List.map_append, vn_app]
            show some (HO.lst (_ ++ [V.int ((i : Int) * (u : Int) % (p : Int))])) = some (HO.lst (_ ++ [V.int ((i * u % p : Nat) : Int)]))
            rw [Int.natCast_emod, Int.natCast_mul]
        · rintro H2 ⟨sm, hDl⟩
          rw [vn_len, List.take_length] at hDl
          exact q i H2 D hv sm hDl
      · rw [show decide (V.int ((i : Int) * (x : Int) % (p : Int)) = V.int 1) = false from decide_eq_false fun z => hv (by
          have := V.int.inj z
          rw [ec] at this
          omega)]
        have hne : i ≠ m := fun z => hv (by rw [z, Nat.mul_comm]; exact hinv)
        refine iteT ⟨_, rfl, _, _, rfl, rfl, ⟨rfl, i + 1, rfl, by omega⟩, ?_⟩
        show m + 1 - ((i : Int) + 1).toNat < m + 1 - (i : Int).toNat
        omega
    · rintro σ H' Q1 Q2 h ⟨a1, e1, a2, e2, b3, b4, b5, b6, f3, f4, f5, f6, c1, c2, c3, c4, c5, d1, d2, d3, d4, d5, d6, d7, g1, b, hb, q⟩
      exact ⟨a1, e1, a2, e2, b3, b4, b5, b6, f3, f4, f5, f6, c1, c2, c3, c4, c5, d1, d2, d3, d4, d5, d6, d7, g1, b, hb, h _ _ q⟩
/-! ### shortened_row -/
theorem scSh : FnScope ["p", "row", "chosen", "begin", "k"] ["p", "row", "chosen"] (defScope sSh) := ⟨rfl, rfl, rfl, by decide +kernel, rfl, by decide +kernel, by decide +kernel⟩
def spSh (K : PySem.W.Frag) : Sp := fun vs H Q _ => ∃ (p : Nat) (a b : Addr) (r u : List Nat), vs = [.int (p : Int), .ref a, .ref b] ∧ SqL K H a (vn r) ∧ SqL K H b (vn u) ∧ r.length = u.length ∧ 1 ≤ r.length ∧ r.length ≤ 1000 ∧ 1 < p ∧ p ≤ 7 ∧ r.headD 0 ≤ p ∧
  ∀ (H' : Hp) (o : Addr), Same H H' → H o = none → H' o = some (.lst (vn (short p u r))) → Q (.ref o) H'
theorem short_int {p x b y : Nat} (hb : b ≤ p) : ((x : Int) - (b : Int) * (y : Int)) % (p : Int) = (((x + (p - b) * y) % p : Nat) : Int) := by
  have e : (((x + (p - b) * y : Nat)) : Int) = ((x : Int) - (b : Int) * (y : Int)) + (p : Int) * (y : Int) := by
    rw [Int.natCast_add, Int.natCast_mul, Int.natCast_sub hb, Int.sub_mul]
    omega
  rw [Int.natCast_emod, e, Int.add_mul_emod_self_left]
theorem ok_sh {f : Addr} {fd : FuncData} {k : Nat} (F : Fun K "shortened_row" "shortened_row" sSh f fd) (mr : mg "range" = none) (ml : mg "len" = none) : FnOk P w K mg base CX0 (k + 1) f fd ["p", "row", "chosen"] (spSh K) := by
  refine F.ok scSh (fun vs H Q E h => ?_) (fun cdv A outer s H vs Q E hr h => ?_)
  · obtain ⟨p, a, b, r, u, rfl, _⟩ := h
    rfl
  · obtain ⟨p, a, b, r, u, rfl, hA, hB, hl, hl1, hl2, hp1, hp7, h0, q⟩ := h
    refine ⟨_, pss_cons (ps_set (i := 3) scSh.nd rfl (.inr rfl) (pe_ix ix_list (pv 1) pe_int (fun _ _ => rfl)))
      (pss_one (ps_ret (pe_lc (own := [("k", 4)]) (g := gName 4) (tt := tYes)
        (te := tOp (rI (fun _ j => 0 < j) fun i j => .int (i % j)) (tOp (rI0 fun i j => .int (i - j)) (tOp (rIxL K) (tVar 1) (tVar 4)) (tOp (rI CMul fun i j => .int (i * j)) (tVar 3) (tOp (rIxL K) (tVar 2) (tVar 4)))) (tVar 0)) rfl scSh.nd
        (pi_range2 (by rfl) mr (pa_cons pe_int (pa_cons (pe_callB call_len_seq (by rfl) ml PySem.boot_len (pa_cons (pv 1) pa_nil)) pa_nil)))
        (blkOk_by (own := [("k", 4)]) (N := ["p", "row", "chosen", "begin", "k"]) (sc := defScope sSh) (by decide +kernel))
        (fun _ _ _ _ _ => pg_name (i := 4) scSh.nd rfl (Or.inl rfl)) (fun _ _ _ _ _ => pts_nil)
        (fun _ _ _ _ _ => pe_op op_mod (pe_op op_sub (pe_ix ix_list (pv 1) (pv 4) (fun _ _ => rfl)) (pe_op op_mul (pv 3) (pe_ix ix_list (pv 2) (pv 4) (fun _ _ => rfl)))) (pv 0))))), ?_⟩
    obtain ⟨x, e, rfl⟩ : ∃ x e, r = x :: e := by
      cases r with
      | nil => simp at hl1
      | cons x e => exact ⟨x, e, rfl⟩
    obtain ⟨y, g, rfl⟩ : ∃ x e, u = x :: e := by
      cases u with
      | nil => simp at hl
      | cons x e => exact ⟨x, e, rfl⟩
    have hg : e.length = g.length := by simpa using hl
    have hx : x ≤ p := h0
    have he : e.length + 1 ≤ 1000 := by simpa using hl2
    refine ⟨_, rfl, a, _, 0, .int (x : Int), rfl, rfl, hA, atI_nat (j := 0) rfl, ?_⟩
    refine ⟨_, rfl, a, _, rfl, .inl hA, 1, ((e.length + 1 : Nat) : Int), ?_, ⟨by omega, by omega, by omega, by omega⟩, ?_⟩
    · rw [vn_len, List.length_cons]
    have en : (((e.length + 1 : Nat) : Int) - 1).toNat = e.length := by omega
    rw [en]
    refine fun D hD => ?_
    have s1 := same_upd (o := .lst []) hD
    refine lc_range (lo := 1) (n := e.length) (fun i H' => Same H H' ∧ H' D = some (.lst (vn (((e.zip g).take i).map fun y => (y.1 + (p - x) * y.2) % p)))) ⟨s1, upd_same⟩ ?_ ?_
    · rintro i H' hi ⟨sm, hDl⟩
      obtain ⟨c, hc⟩ : ∃ c, e[i]? = some c := ⟨e[i], List.getElem?_eq_getElem hi⟩
      obtain ⟨d, hd⟩ : ∃ d, g[i]? = some d := ⟨g[i]'(by omega), List.getElem?_eq_getElem (by omega)⟩
      have e1 : (1 : Int) + (i : Int) = ((i + 1 : Nat) : Int) := by omega
      refine ⟨rfl, _, rfl, _, rfl, a, _, _, .int (c : Int), rfl, rfl, sm.seq hA, (by rw [e1]; exact atI_nat (vn_get (l := x :: e) (i := i + 1) hc)), _, rfl, _, rfl, _, rfl, b, _, _, .int (d : Int), rfl, rfl, sm.seq hB, (by rw [e1]; exact atI_nat (vn_get (l := y :: g) (i := i + 1) hd)), _, _, rfl, rfl, .inl ⟨by omega, by omega⟩, _, _, rfl, rfl, _, rfl, _, _, rfl, rfl, (by show (0 : Int) < p; omega), _, hDl, ?_, fun b z e => ?_, ?_⟩
      · rw [vn_len, List.length_map, List.length_take]
        exact small1000 (by omega)
      · rw [upd_ne (ne_of_none e hD)]
        exact sm b z e
      · rw [upd_same, take_more (show (e.zip g)[i]? = some (c, d) from List.getElem?_zip_eq_some.mpr ⟨hc, hd⟩), List.map_append, vn_app]
        show some (HO.lst (_ ++ [V.int (((c : Int) - (x : Int) * (d : Int)) % (p : Int))])) = some (HO.lst (_ ++ [V.int (((c + (p - x) * d) % p : Nat) : Int)]))
        rw [short_int hx]
    · rintro H' ⟨sm, hDl⟩
      rw [List.take_of_length_le (by rw [List.length_zip]; omega)] at hDl
      exact q H' D sm hD hDl
end
end Nz
namespace Nz
open PySem PySem.Spec PyProof.Rows L2
abbrev sNf : Stmt := topS 17
section
variable {P : Program} {w : World} {K : PySem.W.Frag} {mg : Str → Option Value} {base : Heap}
/-! ### nought_factors -/
theorem scNf : FnScope ["p", "rows", "solved", "left", "place", "chosen", "row"] ["p", "rows"] (defScope sNf) := ⟨rfl, rfl, rfl, by decide +kernel, rfl, by decide +kernel, by decide +kernel⟩
def spNf : Sp := fun vs H Q _ => ∃ (p : Nat) (a : Addr) (R : List (List Nat)) (w : Nat), vs = [.int (p : Int), .ref a] ∧ TTr H a R ∧ Prime4 p ∧ R.length + 1 = w ∧ w ≤ 900 ∧ (∀ r ∈ R, r.length = w) ∧ (∀ r ∈ R, ∀ y ∈ r, y < p) ∧
  ∀ (H' : Hp) (o : Addr) (S L : List (List Nat)), Same H H' → Nf p w R S L → (∀ r ∈ L, r.headD 0 = 0) → H' o = some (.lst (vn (facsOf p S))) → Q (.ref o) H'
def muNf : L2.St → Hp → Nat := fun σ H => match σ with
  | [_, _, _, some (.ref l), _, _, _] => (match H l with
    | some (.lst xs) => xs.length
    | _ => 0)
  | _ => 0
theorem muNf_is {H : Hp} {x0 x1 x2 x4 x5 x6 : Option V} {l : Addr} {xs : List V} (h : H l = some (.lst xs)) : muNf [x0, x1, x2, some (.ref l), x4, x5, x6] H = xs.length := by
  show (match H l with
    | some (.lst xs) => xs.length
    | _ => 0) = _
  rw [h]
theorem neg_int {p x : Nat} (hx : x ≤ p) : ((p : Int) - (x : Int)) % (p : Int) = (((p - x) % p : Nat) : Int) := by
  rw [Int.natCast_emod, Int.natCast_sub hx]
theorem head_le {p : Nat} {r : List Nat} (h : ∀ y ∈ r, y < p) : r.headD 0 ≤ p := by
  cases r with
  | nil => exact Nat.zero_le _
  | cons x r => exact Nat.le_of_lt (h x (List.mem_cons_self ..))
theorem ok_nf {f fFn fSc fSh : Addr} {fd dFn dSc dSh : FuncData} {k : Nat} (F : Fun K "nought_factors" "nought_factors" sNf f fd) (FFn : Fun K "first_not_nought" "first_not_nought" sFn fFn dFn) (bFn : Binds K dFn ["rows"] []) (gFn : mg "first_not_nought" = some (.ref fFn))
    (FSc : Fun K "scaled_row" "scaled_row" sSc fSc dSc) (bSc : Binds K dSc ["p", "row"] []) (gSc : mg "scaled_row" = some (.ref fSc)) (FSh : Fun K "shortened_row" "shortened_row" sSh fSh dSh) (bSh : Binds K dSh ["p", "row", "chosen"] []) (gSh : mg "shortened_row" = some (.ref fSh))
    (mr : mg "range" = none) (ml : mg "len" = none) : FnOk P w K mg base CX0 (k + 1 + 1) f fd ["p", "rows"] spNf := by
  have GFn : FnOk P w K mg base CX0 (k + 1) fFn dFn ["rows"] (spFn K) := ok_fn FFn ml
  have GSc : FnOk P w K mg base CX0 (k + 1) fSc dSc ["p", "row"] (spSc K) := ok_sc FSc
  have GSh : FnOk P w K mg base CX0 (k + 1) fSh dSh ["p", "row", "chosen"] (spSh K) := ok_sh FSh mr ml
  refine F.ok scNf (fun vs H Q E h => ?_) (fun cdv A outer s H vs Q E hr h => ?_)
  · obtain ⟨p, a, R, w, rfl, _⟩ := h
    rfl
  · obtain ⟨p, a, R, w, rfl, hR, hpr, hw, hw9, hwid, hlow, q⟩ := h
    refine ⟨_, pss_cons (ps_set (i := 2) scNf.nd rfl (.inl rfl) (pe_lst pa_nil))
      (pss_cons (ps_set (i := 3) scNf.nd rfl (.inl rfl) (pv 1))
      (pss_cons (ps_set (i := 4) scNf.nd rfl (.inl rfl) (pe_call GFn hr (by rfl) gFn FFn.kp bFn .nil pass0 (pa_cons (pv 3) pa_nil)))
      (pss_cons (ps_while PassesOwn.never (pt_cmpR op_lt (pv 4) (pe_callB call_len_seq (by rfl) ml PySem.boot_len (pa_cons (pv 3) pa_nil)) (nomark _))
        (pss_cons (ps_set (i := 5) scNf.nd rfl (.inr rfl) (pe_call GSc hr (by rfl) gSc FSc.kp bSc .nil pass0 (pa_cons (pv 0) (pa_cons (pe_ix ix_list (pv 3) (pv 4) (fun _ _ => rfl)) pa_nil))))
        (pss_cons (ps_set (i := 2) scNf.nd rfl (.inl rfl) (pe_op op_cat (pe_lc (own := [("row", 6)]) (g := gName 6) (tt := tYes) rfl scNf.nd (pi_list (pv 2)) (blkOk_by (own := [("row", 6)]) (N := ["p", "rows", "solved", "left", "place", "chosen", "row"]) (sc := defScope sNf) (by decide +kernel)) (fun _ _ _ _ _ => pg_name (i := 6) scNf.nd rfl (Or.inl rfl)) (fun _ _ _ _ _ => pts_nil)
            (fun _ _ _ _ _ => pe_call GSh hr (by rfl) gSh FSh.kp bSh .nil pass0 (pa_cons (pv 0) (pa_cons (pv 6) (pa_cons (pv 5) pa_nil)))))
          (pe_lst (pa_cons (pe_slice sl_list (pv 5) (po_some pe_int) po_none) pa_nil))))
        (pss_cons (ps_setLc (i := 3) (own := [("row", 6)]) (g := gName 6) (tt := tYes) rfl scNf.nd rfl rfl (sw_true rfl rfl rfl (by decide +kernel))
            (pi_list (pe_op op_cat (pe_slice sl_list (pv 3) po_none (po_some (pv 4))) (pe_slice sl_list (pv 3) (po_some (pe_op op_add (pv 4) pe_int)) po_none))) (blkOk_by (own := [("row", 6)]) (N := ["p", "rows", "solved", "left", "place", "chosen", "row"]) (sc := defScope sNf) (by decide +kernel)) (fun _ _ _ _ _ => pg_name (i := 6) scNf.nd rfl (Or.inl rfl)) (fun _ _ _ _ _ => pts_nil)
            (fun _ _ _ _ _ => pe_call GSh hr (by rfl) gSh FSh.kp bSh .nil pass0 (pa_cons (pv 0) (pa_cons (pv 6) (pa_cons (pv 5) pa_nil)))))
        (pss_one (ps_set (i := 4) scNf.nd rfl (.inl rfl) (pe_call GFn hr (by rfl) gFn FFn.kp bFn .nil pass0 (pa_cons (pv 3) pa_nil))))))))
      (pss_one (ps_ret (pe_op op_cat (pe_lc (own := [("row", 6)]) (g := gName 6) (tt := tYes) (te := tOp (rI (fun _ j => 0 < j) fun i j => .int (i % j)) (tOp (rI0 fun i j => .int (i - j)) (tVar 0) (tOp (rIxL K) (tVar 6) (tC (.int 0)))) (tVar 0)) rfl scNf.nd (pi_list (pv 2)) (blkOk_by (own := [("row", 6)]) (N := ["p", "rows", "solved", "left", "place", "chosen", "row"]) (sc := defScope sNf) (by decide +kernel)) (fun _ _ _ _ _ => pg_name (i := 6) scNf.nd rfl (Or.inl rfl)) (fun _ _ _ _ _ => pts_nil)
            (fun _ _ _ _ _ => pe_op op_mod (pe_op op_sub (pv 0) (pe_ix ix_list (pv 6) pe_int (fun _ _ => rfl))) (pv 0)))
          (pe_lst (pa_cons pe_int pa_nil)))))))), ?_⟩
    have hp1 := hpr.gt
    have hp7 : p ≤ 7 := by rcases hpr with h | h | h | h <;> omega
    refine ⟨Nat.zero_le _, fun so nso => ⟨_, rfl, _, rfl, ?_⟩⟩
    have s0 := same_upd (o := .lst []) nso
    have hR0 := hR.same s0
    refine ⟨a, R, rfl, hR0.at_, fun r hr => by rw [hwid r hr]; omega, fun pl hpl hz hnz => ?_⟩
    refine while_by (fun σ H' => ∃ (S L : List (List Nat)) (so le : Addr) (pl : Nat) (v5 : Option V), σ = [some (.int (p : Int)), some (.ref a), some (.ref so), some (.ref le), some (.int (pl : Int)), v5, none] ∧ Same H H' ∧ TTr H' so S ∧ TTr H' le L ∧ Nf p w R S L ∧ pl ≤ L.length ∧
      (∀ (j : Nat) (t : List Nat), j < pl → L[j]? = some t → t.headD 0 = 0) ∧ ∀ t : List Nat, L[pl]? = some t → t.headD 0 ≠ 0) muNf ⟨[], R, so, a, pl, none, rfl, s0, ⟨[], upd_same, rfl, fun i b t hb => by simp at hb⟩, hR0, nf_start hw hwid hlow, hpl, hz, hnz⟩ ?_ ?_
    · rintro σ H1 ⟨S, L, so, le, pl, v5, rfl, s1, hS, hL, I, hpl, hz, hnz⟩
      obtain ⟨as, a1, a2, a3⟩ := id hL
      obtain ⟨bs, b1, b2, b3⟩ := id hS
      have el : (as.map V.ref).length = L.length := by rw [List.length_map, a2]
      have hlen := I.len
      refine ⟨_, rfl, _, rfl, le, _, rfl, .inl (SqL.of a1), _, _, rfl, rfl, _, rfl, ?_⟩
      rw [el]
      by_cases hlt : pl < L.length
      · rw [decide_eq_true (show (pl : Int) < (L.length : Int) by omega)]
        obtain ⟨r, hr1⟩ : ∃ r, L[pl]? = some r := ⟨L[pl], List.getElem?_eq_getElem hlt⟩
        obtain ⟨c, hc⟩ := get_ex a2.symm hr1
        have hrm := List.mem_of_getElem? hr1
        have hrw := I.wL r hrm
        refine iteT ⟨_, rfl, _, rfl, _, rfl, le, _, _, _, rfl, rfl, SqL.of a1, atI_nat (j := pl) (by rw [List.getElem?_map, hc]; rfl), p, c, r, rfl, SqL.of (a3 pl c r hc hr1), by omega, hpr, hnz r hr1, I.lL r hrm, fun v H2 o2 hv s2 ho2 => ?_⟩
        obtain ⟨u, eu⟩ : ∃ u, u = scaled p v r := ⟨_, rfl⟩
        rw [← eu] at ho2
        have hul : u.length = w - S.length := by rw [eu, scaled, List.length_map, hrw]
        -- solved
        refine ⟨_, rfl, so, rfl, ⟨_, SqL.of (s2 _ _ b1)⟩, fun D hD => ?_⟩
        have s3 := same_upd (o := .lst []) hD
        refine lc_list (K := K) (a := so) (xs := bs.map V.ref) (fun i H' => Same H2 H' ∧ TOn H' D ((S.map (short p u)).take i)) ⟨s3, [], upd_same, rfl, fun i b t hb => by simp at hb⟩ (fun i H' _ h => SqL.of (h.1 _ _ (s2 _ _ b1))) ?_ ?_
        · rintro i y H' hi ⟨sm, cs, c1, c2, c3⟩
          obtain ⟨d, hd, rfl⟩ := map_get hi
          obtain ⟨t, hti⟩ := get_ex b2 hd
          have htm := List.mem_of_getElem? hti
          have htw := I.wS t htm
          have sm1 := s2.trans sm
          refine ⟨rfl, _, rfl, _, rfl, _, rfl, p, d, o2, t, u, rfl, SqL.of (sm1 _ _ (b3 i d t hd hti)), SqL.of (sm _ _ ho2), by omega, by omega, by omega, hp1, hp7, head_le (I.lS t htm), fun H3 o3 s4 n4 ho3 => ?_⟩
          refine ⟨_, s4 _ _ c1, ?_, fun b z e => ?_, ?_⟩
          · have h4 := List.length_take_le' i (S.map (short p u))
            rw [List.length_map] at h4
            rw [List.length_map, c2]
            exact small1000 (by omega)
          · rw [upd_ne (ne_of_none e hD)]
            exact s4 _ _ (sm b z e)
          · rw [take_more (show (S.map (short p u))[i]? = some (short p u t) by rw [List.getElem?_map, hti]; rfl)]
            exact TOn.more (H := H) (s4 _ _ c1) c2 (fun i b t hb ht => ⟨(c3 i b t hb ht).1, s4 _ _ (c3 i b t hb ht).2⟩) ho3 (ne_of_none c1 n4).symm
        · rintro H3 ⟨sm, hO⟩
          rw [List.take_of_length_le (by rw [List.length_map, List.length_map, b2]; exact Nat.le_refl _)] at hO
          obtain ⟨cs, c1, c2, c3⟩ := hO.tr
          refine ⟨_, rfl, 1, rfl, o2, _, rfl, SqL.of (sm _ _ ho2), fun o4 n4 => ?_⟩
          rw [cut_tail]
          have s4 := same_upd (o := .lst (vn u.tail)) n4
          refine ⟨(by show 1 ≤ sizeLine; decide), fun o5 n5 => ?_⟩
          have s5 := same_upd (o := .lst [V.ref o4]) n5
          have s45 := s4.trans s5
          refine ⟨D, o5, _, _, rfl, rfl, s45 _ _ c1, upd_same, ?_, fun o6 n6 => ?_⟩
          · rw [List.length_map, c2, List.length_map]
            show S.length + 1 ≤ sizeLine
            exact Nat.le_of_lt (small1000 (by omega))
          · have s6 := same_upd (o := .lst (cs.map V.ref ++ [V.ref o4])) n6
            have s456 := s45.trans s6
            obtain ⟨H6, eH⟩ : ∃ H6, H6 = upd (upd (upd H3 o4 (.lst (vn u.tail))) o5 (.lst [V.ref o4])) o6 (.lst (cs.map V.ref ++ [V.ref o4])) := ⟨_, rfl⟩
            have hS6 : TTr H6 o6 (S.map (short p u) ++ [u.tail]) := by
              refine ⟨cs ++ [o4], by rw [eH, upd_same, List.map_append]; rfl, by rw [List.length_append, List.length_append, c2]; rfl, fun j b t hb ht => ?_⟩
              rcases Nat.lt_or_ge j cs.length with hj | hj
              · rw [List.getElem?_append_left hj] at hb
                rw [List.getElem?_append_left (by omega)] at ht
                rw [eH]
                exact s456 _ _ (c3 j b t hb ht)
              · rw [List.getElem?_append_right hj] at hb
                have e3 : j = cs.length := by
                  have := (List.getElem?_eq_some_iff.mp hb).1
                  rw [List.length_singleton] at this
                  omega
                rw [List.getElem?_append_right (by omega)] at ht
                rw [e3, Nat.sub_self] at hb
                rw [e3, c2, Nat.sub_self] at ht
                rw [← show o4 = b from Option.some.inj hb, ← show u.tail = t from Option.some.inj ht, eH]
                exact s6 _ _ (s5 _ _ upd_same)
            rw [← eH]
            have sA : Same H2 H6 := by
              rw [eH]
              exact sm.trans s456
            have a1' := sA _ _ (s2 _ _ a1)
            -- left
            refine ⟨_, rfl, _, rfl, _, rfl, le, _, rfl, SqL.of a1', fun o7 n7 => ?_⟩
            rw [cut_to (by rw [el]; omega)]
            have s7 := same_upd (o := .lst ((as.map V.ref).take pl)) n7
            refine ⟨_, rfl, _, rfl, _, _, rfl, rfl, _, rfl, le, _, rfl, SqL.of (s7 _ _ a1'), fun o8 n8 => ?_⟩
            rw [show ((pl : Int) + 1) = ((pl + 1 : Nat) : Int) by omega, cut_from (by rw [el]; omega)]
            have s8 := same_upd (o := .lst ((as.map V.ref).drop (pl + 1))) n8
            refine ⟨o7, o8, _, _, rfl, rfl, s8 _ _ upd_same, upd_same, ?_, fun o9 n9 => ?_⟩
            · rw [List.length_take, List.length_drop, el]
              exact Nat.le_of_lt (small1000 (by omega))
            · have s9 := same_upd (o := .lst ((as.map V.ref).take pl ++ (as.map V.ref).drop (pl + 1))) n9
              have s789 := (s7.trans s8).trans s9
              obtain ⟨H9, eH9⟩ : ∃ H9, H9 = upd (upd (upd H6 o7 (.lst ((as.map V.ref).take pl))) o8 (.lst ((as.map V.ref).drop (pl + 1)))) o9 (.lst ((as.map V.ref).take pl ++ (as.map V.ref).drop (pl + 1))) := ⟨_, rfl⟩
              rw [← eH9] at s789 ⊢
              have sB : Same H2 H9 := sA.trans s789
              have hM : TTr H9 o9 (L.take pl ++ L.drop (pl + 1)) := by
                refine TTr.pick (a := le) pl a2 (fun i b t hb ht => sB _ _ (s2 _ _ (a3 i b t hb ht))) ?_
                rw [eH9, upd_same, List.map_take, List.map_drop]
              obtain ⟨ds, d1, d2, d3⟩ := id hM
              have hbl := but_len hr1
              have hsub : ∀ q ∈ L.take pl ++ L.drop (pl + 1), q ∈ L := fun q hq => (mem_but hr1 q).mpr (.inr hq)
              refine ⟨o9, rfl, ⟨_, SqL.of d1⟩, fun D2 hD2 => ?_⟩
              have s10 := same_upd (o := .lst []) hD2
              refine lc_list (K := K) (a := o9) (xs := ds.map V.ref) (fun i H' => Same H9 H' ∧ TOn H' D2 (((L.take pl ++ L.drop (pl + 1)).map (short p u)).take i)) ⟨s10, [], upd_same, rfl, fun i b t hb => by simp at hb⟩ (fun i H' _ h => SqL.of (h.1 _ _ d1)) ?_ ?_
              · rintro i y H' hi ⟨sm2, es, e1, e2, e3⟩
                obtain ⟨d, hd, rfl⟩ := map_get hi
                obtain ⟨t, hti⟩ := get_ex d2 hd
                have htm := hsub t (List.mem_of_getElem? hti)
                have htw := I.wL t htm
                refine ⟨rfl, _, rfl, _, rfl, _, rfl, p, d, o2, t, u, rfl, SqL.of (sm2 _ _ (d3 i d t hd hti)), SqL.of (sm2 _ _ (sB _ _ ho2)), by omega, by omega, by omega, hp1, hp7, head_le (I.lL t htm), fun H3 o3 s4 n4 ho3 => ?_⟩
                refine ⟨_, s4 _ _ e1, ?_, fun b z e => ?_, ?_⟩
                · have h4 := List.length_take_le' i ((L.take pl ++ L.drop (pl + 1)).map (short p u))
                  rw [List.length_map] at h4
                  rw [List.length_map, e2]
                  exact small1000 (by omega)
                · rw [upd_ne (ne_of_none e hD2)]
                  exact s4 _ _ (sm2 b z e)
                · rw [take_more (show ((L.take pl ++ L.drop (pl + 1)).map (short p u))[i]? = some (short p u t) by rw [List.getElem?_map, hti]; rfl)]
                  exact TOn.more (H := H) (s4 _ _ e1) e2 (fun i b t hb ht => ⟨(e3 i b t hb ht).1, s4 _ _ (e3 i b t hb ht).2⟩) ho3 (ne_of_none e1 n4).symm
              · rintro H10 ⟨sm2, hO2⟩
                rw [List.take_of_length_le (by rw [List.length_map, List.length_map, d2]; exact Nat.le_refl _)] at hO2
                have I' := nf_step hp1 I hr1 hv
                rw [← eu] at I'
                have hL' := hO2.tr
                have hlen' := I'.len
                refine ⟨_, rfl, D2, _, rfl, hL'.at_, fun r hr => by rw [I'.wL r hr]; omega, fun pl' hpl' hz' hnz' => ⟨⟨_, _, o6, D2, pl', _, rfl, ((s1.trans s2).trans sB).trans sm2, (hS6.same s789).same sm2, hL', I', hpl', hz', hnz'⟩, ?_⟩⟩
                obtain ⟨es, e1, e2, _⟩ := id hL'
                show muNf [some (V.int (p : Int)), some (V.ref a), some (V.ref o6), some (V.ref D2), some (V.int (pl' : Int)), some (V.ref o2), none] H10 < muNf [some (V.int (p : Int)), some (V.ref a), some (V.ref so), some (V.ref le), some (V.int (pl : Int)), v5, none] H1
                rw [muNf_is e1, muNf_is a1, List.length_map, e2, List.length_map, el]
                omega
      · rw [decide_eq_false (show ¬ (pl : Int) < (L.length : Int) by omega)]
        have hz0 : ∀ r ∈ L, r.headD 0 = 0 := fun r hr => by
          obtain ⟨j, hj⟩ := List.getElem?_of_mem hr
          have := (List.getElem?_eq_some_iff.mp hj).1
          exact hz j r (by omega) hj
        refine iteF ⟨_, rfl, so, rfl, ⟨_, SqL.of b1⟩, fun D hD => ?_⟩
        have s3 := same_upd (o := .lst []) hD
        refine lc_list (K := K) (a := so) (xs := bs.map V.ref) (fun i H' => Same H1 H' ∧ H' D = some (.lst (vn ((S.take i).map fun r => (p - r.headD 0) % p)))) ⟨s3, upd_same⟩ (fun i H' _ h => SqL.of (h.1 _ _ b1)) ?_ ?_
        · rintro i y H' hi ⟨sm, hDl⟩
          obtain ⟨d, hd, rfl⟩ := map_get hi
          obtain ⟨t, hti⟩ := get_ex b2 hd
          have htm := List.mem_of_getElem? hti
          have htw := I.wS t htm
          have hil := (List.getElem?_eq_some_iff.mp hti).1
          obtain ⟨x, e, rfl⟩ : ∃ x e, t = x :: e := by
            cases t with
            | nil => rw [List.length_nil] at htw; omega
            | cons x e => exact ⟨x, e, rfl⟩
          refine ⟨rfl, _, rfl, _, rfl, d, _, 0, .int (x : Int), rfl, rfl, SqL.of (sm _ _ (b3 i d _ hd hti)), atI_nat (j := 0) rfl, _, _, rfl, rfl, _, rfl, _, _, rfl, rfl, (by show (0 : Int) < p; omega), _, hDl, ?_, fun b z e => ?_, ?_⟩
          · have h4 := List.length_take_le' i S
            rw [vn_len, List.length_map]
            exact small1000 (by omega)
          · rw [upd_ne (ne_of_none e hD)]
            exact sm b z e
          · rw [upd_same, take_more hti, List.map_append, vn_app]
            show some (HO.lst (_ ++ [V.int (((p : Int) - (x : Int)) % (p : Int))])) = some (HO.lst (_ ++ [V.int (((p - x) % p : Nat) : Int)]))
            rw [neg_int (x := x) (head_le (I.lS _ htm))]
        · rintro H3 ⟨sm, hDl⟩
          rw [List.length_map, b2, List.take_length] at hDl
          refine ⟨(by show 1 ≤ sizeLine; decide), fun o5 n5 => ?_⟩
          have s5 := same_upd (o := .lst [V.int 1]) n5
          refine ⟨D, o5, _, _, rfl, rfl, s5 _ _ hDl, upd_same, ?_, fun o6 n6 => q _ o6 S L (((s1.trans sm).trans s5).trans (same_upd n6)) I hz0 ?_⟩
          · rw [vn_len, List.length_map]
            show S.length + 1 ≤ sizeLine
            exact Nat.le_of_lt (small1000 (by omega))
          · rw [upd_same, facsOf, vn_app]
            rfl
    · rintro σ H' Q1 Q2 h ⟨c1, e1, c2, e2, c3, c4, e3, e4, i, j, hi, hj, b, hb, q⟩
      exact ⟨c1, e1, c2, e2, c3, c4, e3, e4, i, j, hi, hj, b, hb, h _ _ q⟩
end
end Nz
namespace Nz
open PySem PySem.Spec PyProof.Rows L2
abbrev sSe : Stmt := topS 14
section
variable {P : Program} {w : World} {K : PySem.W.Frag} {mg : Str → Option Value} {base : Heap}
/-! ### set_terms -/
theorem scSe : FnScope ["p", "n", "s", "terms", "rows", "factors", "x", "k"] ["p", "n", "s"] (defScope sSe) := ⟨rfl, rfl, rfl, by decide +kernel, rfl, by decide +kernel, by decide +kernel⟩
def spSe (K : PySem.W.Frag) : Sp := fun vs H Q _ => ∃ (p n : Nat) (a : Addr) (l : List Nat), vs = [.int (p : Int), .int (n : Int), .ref a] ∧ SqL K H a (vn l) ∧ Kzt1.okField p n = true ∧ l.length < p ^ n ∧
  ∀ (H' : Hp) (o : Addr) (S L : List (List Nat)), Same H H' → Nf p (l.length + 1) (l.map (Kzt1.row p n (lowM p n (l.length + 1)))) S L → (∀ r ∈ L, r.headD 0 = 0) → TTr H' o (setG p n (l.length + 1) S) → Q (.ref o) H'
theorem kept_next {d : Fd} {i : Nat} {x : List Nat × Nat} (h : d[i]? = some x) : kept (d.take (i + 1)) = if x.2 = 0 then kept (d.take i) else kept (d.take i) ++ [x.2 :: x.1] := by
  rw [take_more h, kept, kept, List.filter_append, List.map_append]
  by_cases z : x.2 = 0
  · rw [if_pos z]
    simp [z]
  · rw [if_neg z]
    simp [z]
theorem kept_few (d : Fd) : (kept d).length ≤ d.length := by
  rw [kept, List.length_map]
  exact List.length_filter_le _ _
theorem lowT_take (p n k : Nat) : (lowT p n).take k = (lowM p n k).map fun e => 1 :: e := by
  rw [lowT, lowM, List.map_take]
theorem row_is {p n x : Nat} (hp : 1 < p) (ms : List (List Nat)) : (ms.map fun e => 1 :: e).map (fun t => tv p t (Kzt1.coords p n x)) = Kzt1.row p n ms x := by
  rw [Kzt1.row, List.map_map]
  apply List.map_congr_left
  intro e _
  exact tv_row hp e
/-- the facts of the defs that set_terms calls -/
structure Sv (K : PySem.W.Frag) (mg : Str → Option Value) (fTq fTv fNf fFn fSc fSh : Addr) (dTq dTv dNf dFn dSc dSh : FuncData) : Prop where
  FTq : Fun K "term_values" "term_values" sTq fTq dTq
  FTv : Fun K "term_value" "term_value" sTv fTv dTv
  FNf : Fun K "nought_factors" "nought_factors" sNf fNf dNf
  FFn : Fun K "first_not_nought" "first_not_nought" sFn fFn dFn
  FSc : Fun K "scaled_row" "scaled_row" sSc fSc dSc
  FSh : Fun K "shortened_row" "shortened_row" sSh fSh dSh
  bTq : Binds K dTq ["p", "terms", "point"] []
  bTv : Binds K dTv ["p", "term", "point"] []
  bNf : Binds K dNf ["p", "rows"] []
  bFn : Binds K dFn ["rows"] []
  bSc : Binds K dSc ["p", "row"] []
  bSh : Binds K dSh ["p", "row", "chosen"] []
  gTq : mg "term_values" = some (.ref fTq)
  gTv : mg "term_value" = some (.ref fTv)
  gNf : mg "nought_factors" = some (.ref fNf)
  gFn : mg "first_not_nought" = some (.ref fFn)
  gSc : mg "scaled_row" = some (.ref fSc)
  gSh : mg "shortened_row" = some (.ref fSh)
theorem ok_se {f fLw fP fC fN fTq fTv fNf fFn fSc fSh : Addr} {fd dLw dP dC dN dTq dTv dNf dFn dSc dSh : FuncData} {k : Nat} (F : Fun K "set_terms" "set_terms" sSe f fd) (FLw : Fun K "low_terms" "low_terms" sLw fLw dLw) (bLw : Binds K dLw ["p", "n"] []) (gLw : mg "low_terms" = some (.ref fLw))
    (FP : Fun K "term_place" "term_place" sTp fP dP) (bP : Binds K dP ["term"] []) (gP : mg "term_place" = some (.ref fP))
    (FC : Fun K "count_points" "count_points" sCp fC dC) (bC : Binds K dC ["p", "n"] []) (gC : mg "count_points" = some (.ref fC)) (FN : Fun K "point_numbers" "point_numbers" sPn fN dN) (bN : Binds K dN ["p", "n", "x"] []) (gN : mg "point_numbers" = some (.ref fN))
    (M : Sv K mg fTq fTv fNf fFn fSc fSh dTq dTv dNf dFn dSc dSh) (mr : mg "range" = none) (ml : mg "len" = none) (ms : mg "sum" = none) (mo : mg "sorted" = none) :
    FnOk P w K mg base CX0 (k + 1 + 1 + 1 + 1 + 1) f fd ["p", "n", "s"] (spSe K) := by
  have GLw : FnOk P w K mg base CX0 (k + 1 + 1 + 1 + 1) fLw dLw ["p", "n"] spLw := ok_lw FLw FP bP gP FC bC gC FN bN gN mr ms mo
  have GN : FnOk P w K mg base CX0 (k + 1 + 1 + 1 + 1) fN dN ["p", "n", "x"] spPn := ok_pn FN mr
  have GTq : FnOk P w K mg base CX0 (k + 1 + 1 + 1 + 1) fTq dTq ["p", "terms", "point"] (spTq K) := ok_tq M.FTq M.FTv M.bTv M.gTv mr ml
  have GNf : FnOk P w K mg base CX0 (k + 1 + 1 + 1 + 1) fNf dNf ["p", "rows"] spNf := ok_nf M.FNf M.FFn M.bFn M.gFn M.FSc M.bSc M.gSc M.FSh M.bSh M.gSh mr ml
  refine F.ok scSe (fun vs H Q E h => ?_) (fun cdv A outer s H vs Q E hr h => ?_)
  · obtain ⟨p, n, a, l, rfl, _⟩ := h
    rfl
  · obtain ⟨p, n, a, l, rfl, hA, ok, hlt, q⟩ := h
    refine ⟨_, pss_cons (ps_set (i := 3) scSe.nd rfl (.inr rfl) (pe_slice sl_list (pe_call GLw hr (by rfl) gLw FLw.kp bLw .nil pass0 (pa_cons (pv 0) (pa_cons (pv 1) pa_nil))) po_none (po_some (pe_op op_add (pe_callB call_len_seq (by rfl) ml PySem.boot_len (pa_cons (pv 2) pa_nil)) pe_int))))
      (pss_cons (ps_setLc (i := 4) (own := [("x", 6)]) (g := gName 6) (tt := tYes) rfl scSe.nd rfl rfl (sw_true rfl rfl rfl (by decide +kernel)) (pi_list (pv 2))
        (blkOk_by (own := [("x", 6)]) (N := ["p", "n", "s", "terms", "rows", "factors", "x", "k"]) (sc := defScope sSe) (by decide +kernel)) (fun _ _ _ _ _ => pg_name (i := 6) scSe.nd rfl (Or.inl rfl)) (fun _ _ _ _ _ => pts_nil)
        (fun _ _ _ _ _ => pe_call GTq hr (by rfl) M.gTq M.FTq.kp M.bTq .nil pass0 (pa_cons (pv 0) (pa_cons (pv 3) (pa_cons (pe_call GN hr (by rfl) gN FN.kp bN .nil pass0 (pa_cons (pv 0) (pa_cons (pv 1) (pa_cons (pv 6) pa_nil)))) pa_nil)))))
      (pss_cons (ps_set (i := 5) scSe.nd rfl (.inr rfl) (pe_call GNf hr (by rfl) M.gNf M.FNf.kp M.bNf .nil pass0 (pa_cons (pv 0) (pa_cons (pv 4) pa_nil))))
      (pss_one (ps_ret (pe_lc (own := [("k", 7)]) (g := gName 7) (te := tOp rCat (tLst (tCons (tOp (rIxL K) (tVar 5) (tVar 7)) tNil)) (tSl (rSlL K) (tOp (rIxL K) (tVar 3) (tVar 7)) (tPart (tC (.int 1))) tNoPart)) rfl scSe.nd
        (pi_range1 (by rfl) mr (pa_cons (pe_callB call_len_seq (by rfl) ml PySem.boot_len (pa_cons (pv 5) pa_nil)) pa_nil))
        (blkOk_by (own := [("k", 7)]) (N := ["p", "n", "s", "terms", "rows", "factors", "x", "k"]) (sc := defScope sSe) (by decide +kernel)) (fun _ _ _ _ _ => pg_name (i := 7) scSe.nd rfl (Or.inl rfl))
        (fun _ _ _ _ _ => pts_one (pt_cmpR (X := Cx.blk _ _ _ _ _ _) (op_ne) (pe_ix (r := rIxL K) ix_list (pv 5) (pv 7) (fun _ _ => rfl)) pe_int (nomark _)))
        (fun _ _ _ _ _ => pe_op op_cat (pe_lst (pa_cons (pe_ix ix_list (pv 5) (pv 7) (fun _ _ => rfl)) pa_nil)) (pe_slice sl_list (pe_ix ix_list (pv 3) (pv 7) (fun _ _ => rfl)) (po_some pe_int) po_none))))))), ?_⟩
    obtain ⟨hp1, hp7⟩ := okField_p ok
    obtain ⟨hn1, hn3⟩ := okField_n ok
    have hpr := prime_of ok
    have h343 := pow_343 hp7 hp1 hn3
    obtain ⟨w, ew⟩ : ∃ w, w = l.length + 1 := ⟨_, rfl⟩
    rw [← ew] at q
    refine ⟨_, rfl, _, rfl, p, n, rfl, hp1, hp7, hn3, fun H1 o1 s1 hT => ?_⟩
    obtain ⟨as, a1, a2, a3⟩ := hT
    rw [lowT_len] at a2
    refine ⟨_, rfl, a, _, rfl, .inl (s1.seq hA), _, _, rfl, rfl, _, rfl, o1, _, rfl, SqL.of a1, fun o2 n2 => ?_⟩
    rw [vn_len, show ((l.length : Int) + 1) = ((w : Nat) : Int) by omega, cut_to (by rw [List.length_map, a2]; omega)]
    have s2 := same_upd (o := .lst ((as.map V.ref).take w)) n2
    obtain ⟨H2, eH2⟩ : ∃ H2, H2 = upd H1 o2 (.lst ((as.map V.ref).take w)) := ⟨_, rfl⟩
    rw [← eH2] at s2 ⊢
    have hMl : (lowM p n w).length = w := lowM_len (by omega)
    have hT2 : TTr H2 o2 ((lowM p n w).map fun e => 1 :: e) := by
      refine ⟨as.take w, by rw [eH2, upd_same, List.map_take], by rw [List.length_take, List.length_map, a2, hMl]; omega, fun j b t hb ht => ?_⟩
      rw [← lowT_take] at ht
      have hj := (List.getElem?_eq_some_iff.mp hb).1
      rw [List.length_take] at hj
      rw [List.getElem?_take_of_lt (by omega)] at hb ht
      exact s2 _ _ (a3 j b t hb ht)
    have hTr : Rows n ((lowM p n w).map fun e => 1 :: e) := by
      rw [← lowT_take]
      exact fun t ht => lowT_rows p n t (List.mem_of_mem_take ht)
    have hTs : ∀ t ∈ ((lowM p n w).map fun e => 1 :: e), ∀ y ∈ t, y ≤ 12 := by
      rw [← lowT_take]
      exact fun t ht => lowT_small hp1 hp7 t (List.mem_of_mem_take ht)
    have s12 := s1.trans s2
    -- rows
    refine ⟨_, rfl, a, rfl, ⟨_, s12.seq hA⟩, fun D hD => ?_⟩
    have s3 := same_upd (o := .lst []) hD
    refine lc_list (K := K) (a := a) (xs := vn l) (fun i H' => Same H2 H' ∧ TOn H' D ((l.map (Kzt1.row p n (lowM p n w))).take i)) ⟨s3, [], upd_same, rfl, fun i b t hb => by simp at hb⟩ (fun i H' _ h => h.1.seq (s12.seq hA)) ?_ ?_
    · rintro i y H' hi ⟨sm, cs, c1, c2, c3⟩
      obtain ⟨z, hz, rfl⟩ := map_get (l := natI l) hi
      obtain ⟨x, hx, rfl⟩ := map_get (l := l) hz
      refine ⟨rfl, _, rfl, _, rfl, _, rfl, _, rfl, _, rfl, p, n, x, rfl, hp1, hp7, hn3, fun H3 o3 s4 n4 ho3 => ?_⟩
      refine ⟨p, o2, o3, _, Kzt1.coords p n x, rfl, (hT2.same (sm.trans s4)).at_, SqL.of ho3, by rw [coords_len]; exact hTr, by rw [List.length_map, hMl]; omega, by rw [coords_len]; exact hn3, hp1, hp7, coords_lt (by omega), hTs, fun H4 o4 s5 n5 ho4 => ?_⟩
      rw [row_is hp1] at ho4
      have s45 := s4.trans s5
      refine ⟨_, s45 _ _ c1, ?_, fun b z e => ?_, ?_⟩
      · have h4 := List.length_take_le' i (l.map (Kzt1.row p n (lowM p n w)))
        rw [List.length_map] at h4
        rw [List.length_map, c2]
        exact small1000 (by omega)
      · rw [upd_ne (ne_of_none e hD)]
        exact s45 _ _ (sm b z e)
      · rw [take_more (show (l.map (Kzt1.row p n (lowM p n w)))[i]? = some (Kzt1.row p n (lowM p n w) x) by rw [List.getElem?_map, hx]; rfl)]
        exact TOn.more (H := H) (s45 _ _ c1) c2 (fun i b t hb ht => ⟨(c3 i b t hb ht).1, s45 _ _ (c3 i b t hb ht).2⟩) ho4 (ne_of_none (s4 _ _ c1) n5).symm
    · rintro H3 ⟨sm, hO⟩
      rw [List.take_of_length_le (by rw [List.length_map, vn_len]; exact Nat.le_refl _)] at hO
      -- factors
      refine ⟨_, rfl, _, rfl, p, D, _, w, rfl, hO.tr, hpr, by rw [List.length_map]; omega, by omega, setRows_len (by omega), setRows_lt (by omega), fun H4 o4 S L s4 I hz0 ho4 => ?_⟩
      have hlen := I.len
      have hFl : (facsOf p S).length = S.length + 1 := by
        rw [facsOf, List.length_append, List.length_map]
        rfl
      refine ⟨_, rfl, o4, _, rfl, .inl (SqL.of ho4), _, rfl, by rw [vn_len, hFl]; omega, by rw [vn_len, hFl]; omega, ?_⟩
      rw [vn_len, hFl, Int.toNat_natCast]
      refine fun D2 hD2 => ?_
      have s5 := same_upd (o := .lst []) hD2
      have hT4 := hT2.same (sm.trans s4)
      obtain ⟨bs, b1, b2, b3⟩ := hT4
      refine lc_range (lo := 0) (n := S.length + 1) (fun i H' => Same H4 H' ∧ TOn H' D2 (kept (((lowM p n w).zip (facsOf p S)).take i))) ⟨s5, [], upd_same, rfl, fun i b t hb => by simp at hb⟩ ?_ ?_
      · rintro i H' hi ⟨sm2, cs, c1, c2, c3⟩
        have e0 : (0 : Int) + (i : Int) = ((i : Nat) : Int) := by omega
        obtain ⟨c, hc⟩ : ∃ c, (facsOf p S)[i]? = some c := ⟨(facsOf p S)[i]'(by omega), List.getElem?_eq_getElem (by omega)⟩
        obtain ⟨e, he⟩ : ∃ e, (lowM p n w)[i]? = some e := ⟨(lowM p n w)[i]'(by omega), List.getElem?_eq_getElem (by omega)⟩
        have hz : ((lowM p n w).zip (facsOf p S))[i]? = some (e, c) := List.getElem?_zip_eq_some.mpr ⟨he, hc⟩
        have ht : ((lowM p n w).map fun e => 1 :: e)[i]? = some (1 :: e) := by
          rw [List.getElem?_map, he]
          rfl
        obtain ⟨b, hb⟩ := get_ex b2.symm ht
        have ac : atI (vn (facsOf p S)) ((0 : Int) + (i : Int)) = some (V.int (c : Int)) := by
          rw [e0]
          exact atI_nat (vn_get hc)
        refine ⟨rfl, _, rfl, _, rfl, o4, _, _, .int (c : Int), rfl, rfl, SqL.of (sm2 _ _ ho4), ac, rfl, _, rfl, ?_⟩
        rw [kept_next hz]
        by_cases hc0 : c = 0
        · rw [show decide (V.int (c : Int) = V.int 0) = true from decide_eq_true (by rw [hc0]; rfl), if_pos hc0]
          exact iteF ⟨sm2, cs, c1, c2, c3⟩
        · rw [show decide (V.int (c : Int) = V.int 0) = false from decide_eq_false fun z => hc0 (by
            have := V.int.inj z
            omega), if_neg hc0]
          refine iteT ⟨_, rfl, _, rfl, o4, _, _, .int (c : Int), rfl, rfl, SqL.of (sm2 _ _ ho4), ac, (by show 1 ≤ sizeLine; decide), fun o5 n5 => ?_⟩
          have s6 := same_upd (o := .lst [V.int (c : Int)]) n5
          have sm6 := sm2.trans s6
          refine ⟨_, rfl, _, rfl, o2, _, _, _, rfl, rfl, SqL.of (sm6 _ _ b1), (by rw [e0]; exact atI_nat (j := i) (by rw [List.getElem?_map, hb]; rfl)), 1, rfl, b, _, rfl, SqL.of (sm6 _ _ (b3 i b _ hb ht)), fun o6 n6 => ?_⟩
          rw [cut_tail]
          have s7 := same_upd (o := .lst (vn (1 :: e).tail)) n6
          refine ⟨o5, o6, _, _, rfl, rfl, s7 _ _ upd_same, upd_same, ?_, fun o7 n7 => ?_⟩
          · have h4 : e.length = n := (lowM_mem (List.mem_of_getElem? he)).1
            rw [vn_len]
            show 1 + e.length ≤ sizeLine
            exact Nat.le_of_lt (small1000 (by omega))
          · have s67 := s6.trans s7
            have s8 := same_upd (o := .lst ([V.int (c : Int)] ++ vn (1 :: e).tail)) n7
            have sA := s67.trans s8
            refine ⟨_, sA _ _ c1, ?_, fun b z e => ?_, ?_⟩
            · have h4 := kept_few (((lowM p n w).zip (facsOf p S)).take i)
              have h5 := List.length_take_le i ((lowM p n w).zip (facsOf p S))
              rw [List.length_map, c2]
              exact small1000 (by omega)
            · rw [upd_ne (ne_of_none e hD2)]
              exact sA _ _ (sm2 b z e)
            · exact TOn.more (H := H) (sA _ _ c1) c2 (fun i b t hb ht => ⟨(c3 i b t hb ht).1, sA _ _ (c3 i b t hb ht).2⟩) (by rw [upd_same]; rfl) (ne_of_none (s67 _ _ c1) n7).symm
      · rintro H5 ⟨sm2, hO2⟩
        rw [List.take_of_length_le (by rw [List.length_zip, hFl]; omega)] at hO2
        refine q H5 D2 S L (((s12.trans sm).trans s4).trans sm2) I hz0 hO2.tr
end
end Nz
namespace Nz
open PySem PySem.Spec PyProof.Rows L2
abbrev sLe : Stmt := topS 5
section
variable {P : Program} {w : World} {K : PySem.W.Frag} {mg : Str → Option Value} {base : Heap}
/-! ### what is due of least -/
theorem due_least (p n : Nat) (l : List Nat) : PyKzt1.least p n (natI l) = (Kzt1.answer (.least p n l)).value :: (Kzt1.answer (.least p n l)).nums := by
  show (Kzt1.answer (.least (p : Int).toNat (n : Int).toNat (Kzt1Neutral.natsOf (natI l)))).value :: (Kzt1.answer (.least (p : Int).toNat (n : Int).toNat (Kzt1Neutral.natsOf (natI l)))).nums = _
  rw [nats_natI, Int.toNat_natCast, Int.toNat_natCast]
theorem due_least_no {p n : Nat} {l : List Nat} (h : isS p n l = false) : PyKzt1.least p n (natI l) = [-22] := by
  have e : Kzt1.okField p n = false ∨ Kzt1.okSet p n l = false := by
    rw [isS, Bool.and_eq_false_iff] at h
    exact h
  rw [due_least, show Kzt1.answer (.least p n l) = Kzt1.say (-22) from if_pos e]
  rfl
theorem due_least_in {p n : Nat} {l : List Nat} (h : isS p n l = true) : Kzt1.answer (.least p n l) = match Kzt1.least p n l with
    | none => Kzt1.say (-33)
    | some y => ⟨(y.1 : Nat), Kzt1.ints (Kzt1.written y.2)⟩ := by
  obtain ⟨h1, h2⟩ := isS_ex h
  refine if_neg fun z => ?_
  rw [h1, h2] at z
  rcases z with z | z <;> cases z
theorem due_least_all {p n : Nat} {l : List Nat} (h : isS p n l = true) (hl : l.length = p ^ n) : PyKzt1.least p n (natI l) = [-33] := by
  obtain ⟨h1, h2⟩ := isS_ex h
  rw [due_least, due_least_in h, (least_none_iff (prime_of h1) h2).mpr hl]
  rfl
theorem due_least_yes {p n : Nat} {l : List Nat} {S L : List (List Nat)} (h : isS p n l = true) (hl : l.length < p ^ n) (I : Nf p (l.length + 1) (l.map (Kzt1.row p n (lowM p n (l.length + 1)))) S L) (h0 : ∀ r ∈ L, r.headD 0 = 0) :
    PyKzt1.least p n (natI l) = ((degT (setG p n (l.length + 1) S) : Nat) : Int) :: natI (setG p n (l.length + 1) S).flatten := by
  obtain ⟨h1, h2⟩ := isS_ex h
  rw [due_least, due_least_in h, set_least (prime_of h1) hl I h0]
  show _ :: Kzt1.ints (Kzt1.written ((setG p n (l.length + 1) S).map tm)) = _
  rw [written_rows (setG_rows p n (l.length + 1) S)]
  rfl
/-! ### least -/
theorem scLe : FnScope ["p", "n", "s", "terms"] ["p", "n", "s"] (defScope sLe) := ⟨rfl, rfl, rfl, by decide +kernel, rfl, by decide +kernel, by decide +kernel⟩
def spLe (K : PySem.W.Frag) : Sp := fun vs H Q _ => ∃ (p n : Nat) (a : Addr) (l : List Nat), vs = [.int (p : Int), .int (n : Int), .ref a] ∧ SqL K H a (vn l) ∧ l.length ≤ 400 ∧ ∀ (H' : Hp) (o : Addr), H' o = some (.lst ((PyKzt1.least p n (natI l)).map V.int)) → Q (.ref o) H'
/-- the facts of the defs that least calls -/
structure Ls (K : PySem.W.Frag) (mg : Str → Option Value) (fIs fIe fTp fCp fPn fLw fSe fDg fJr aP : Addr) (dIs dIe dTp dCp dPn dLw dSe dDg dJr : FuncData) (tU tN tA : Tok) : Prop where
  FIs : Fun K "is_space" "is_space" sIs fIs dIs
  FIe : Fun K "is_set" "is_set" sIe fIe dIe
  FTp : Fun K "term_place" "term_place" sTp fTp dTp
  FCp : Fun K "count_points" "count_points" sCp fCp dCp
  FPn : Fun K "point_numbers" "point_numbers" sPn fPn dPn
  FLw : Fun K "low_terms" "low_terms" sLw fLw dLw
  FSe : Fun K "set_terms" "set_terms" sSe fSe dSe
  FDg : Fun K "degree" "degree" sDg fDg dDg
  FJr : Fun K "joined_row" "joined_row" sJr fJr dJr
  bIs : Binds K dIs ["p", "n"] []
  bIe : Binds K dIe ["p", "n", "s"] []
  bTp : Binds K dTp ["term"] []
  bCp : Binds K dCp ["p", "n"] []
  bPn : Binds K dPn ["p", "n", "x"] []
  bLw : Binds K dLw ["p", "n"] []
  bSe : Binds K dSe ["p", "n", "s"] []
  bDg : Binds K dDg ["terms"] []
  bJr : Binds K dJr ["terms"] []
  gIs : mg "is_space" = some (.ref fIs)
  gIe : mg "is_set" = some (.ref fIe)
  gTp : mg "term_place" = some (.ref fTp)
  gCp : mg "count_points" = some (.ref fCp)
  gPn : mg "point_numbers" = some (.ref fPn)
  gLw : mg "low_terms" = some (.ref fLw)
  gSe : mg "set_terms" = some (.ref fSe)
  gDg : mg "degree" = some (.ref fDg)
  gJr : mg "joined_row" = some (.ref fJr)
  gP : mg "PRIMES" = some (.ref aP)
  gU : mg "MOST_UNKNOWNS" = some (.int 3 tU)
  gN : mg "NOT_AS_TOLD" = some (.int (-22) tN)
  gA : mg "ALL_POINTS" = some (.int (-33) tA)
  hP : ∀ H : Hp, SqT K H aP [.int 2, .int 3, .int 5, .int 7]
  mr : mg "range" = none
  ml : mg "len" = none
  ms : mg "sum" = none
  mm : mg "max" = none
  mo : mg "sorted" = none
theorem ok_le {f fIs fIe fTp fCp fPn fLw fSe fDg fJr aP fTq fTv fNf fFn fSc fSh : Addr} {fd dIs dIe dTp dCp dPn dLw dSe dDg dJr dTq dTv dNf dFn dSc dSh : FuncData} {tU tN tA : Tok} (F : Fun K "least" "least" sLe f fd) (L : Ls K mg fIs fIe fTp fCp fPn fLw fSe fDg fJr aP dIs dIe dTp dCp dPn dLw dSe dDg dJr tU tN tA) (M : Sv K mg fTq fTv fNf fFn fSc fSh dTq dTv dNf dFn dSc dSh) :
    FnOk P w K mg base CX0 6 f fd ["p", "n", "s"] (spLe K) := by
  have GIe : FnOk P w K mg base CX0 5 fIe dIe ["p", "n", "s"] (spIe K) := ok_ie L.FIe L.FIs L.bIs L.gIs L.gP L.hP L.gU L.FCp L.bCp L.gCp L.mr L.ml
  have GCp : FnOk P w K mg base CX0 5 fCp dCp ["p", "n"] spCp := ok_cp L.FCp L.mr
  have GSe : FnOk P w K mg base CX0 5 fSe dSe ["p", "n", "s"] (spSe K) := ok_se L.FSe L.FLw L.bLw L.gLw L.FTp L.bTp L.gTp L.FCp L.bCp L.gCp L.FPn L.bPn L.gPn M L.mr L.ml L.ms L.mo
  have GDg : FnOk P w K mg base CX0 5 fDg dDg ["terms"] (spDg K) := ok_dg L.FDg L.mm L.ms
  have GJr : FnOk P w K mg base CX0 5 fJr dJr ["terms"] spJr := ok_jr L.FJr
  refine F.ok scLe (fun vs H Q E h => ?_) (fun cdv A outer s H vs Q E hr h => ?_)
  · obtain ⟨p, n, a, l, rfl, _⟩ := h
    rfl
  · obtain ⟨p, n, a, l, rfl, hA, hlen, q⟩ := h
    refine ⟨_, pss_cons (ps_if (pt_not (pt_val (pe_call GIe hr (by rfl) L.gIe L.FIe.kp L.bIe .nil pass0 (pa_cons (pv 0) (pa_cons (pv 1) (pa_cons (pv 2) pa_nil))))))
        (pss_one (ps_ret (pe_lst (pa_cons (pe_glob (v := .int (-22)) rfl L.gN ⟨_, rfl⟩) pa_nil)))) pss_nil)
      (pss_cons (ps_if (pt_cmpR op_eq (pe_callB call_len_seq (by rfl) L.ml PySem.boot_len (pa_cons (pv 2) pa_nil)) (pe_call GCp hr (by rfl) L.gCp L.FCp.kp L.bCp .nil pass0 (pa_cons (pv 0) (pa_cons (pv 1) pa_nil))) (nomark _))
        (pss_one (ps_ret (pe_lst (pa_cons (pe_glob (v := .int (-33)) rfl L.gA ⟨_, rfl⟩) pa_nil)))) pss_nil)
      (pss_cons (ps_set (i := 3) scLe.nd rfl (.inl rfl) (pe_call GSe hr (by rfl) L.gSe L.FSe.kp L.bSe .nil pass0 (pa_cons (pv 0) (pa_cons (pv 1) (pa_cons (pv 2) pa_nil)))))
      (pss_one (ps_ret (pe_op op_cat (pe_lst (pa_cons (pe_call GDg hr (by rfl) L.gDg L.FDg.kp L.bDg .nil pass0 (pa_cons (pv 3) pa_nil)) pa_nil)) (pe_call GJr hr (by rfl) L.gJr L.FJr.kp L.bJr .nil pass0 (pa_cons (pv 3) pa_nil))))))), ?_⟩
    refine ⟨_, rfl, _, rfl, _, rfl, p, n, a, l, rfl, hA, hlen, _, rfl, ?_⟩
    cases hs : isS p n l with
    | false =>
      rw [due_least_no hs] at q
      refine ⟨(by show 1 ≤ sizeLine; decide), fun o no => ?_⟩
      exact q _ o upd_same
    | true =>
      obtain ⟨ok, hset⟩ := isS_ex hs
      obtain ⟨hp1, hp7⟩ := okField_p ok
      obtain ⟨hn1, hn3⟩ := okField_n ok
      obtain ⟨hpw, hlt⟩ := okSet_lt hset
      have hle := set_len hpw hlt
      refine ⟨_, rfl, a, _, rfl, .inl hA, _, rfl, _, rfl, p, n, rfl, hp7, hn3, rfl, _, rfl, ?_⟩
      rw [vn_len]
      by_cases hfull : l.length = p ^ n
      · rw [due_least_all hs hfull] at q
        rw [show decide (V.int (l.length : Int) = V.int ((p ^ n : Nat) : Int)) = true from decide_eq_true (by rw [hfull])]
        refine iteT ⟨(by show 1 ≤ sizeLine; decide), fun o no => ?_⟩
        exact q _ o upd_same
      · rw [show decide (V.int (l.length : Int) = V.int ((p ^ n : Nat) : Int)) = false from decide_eq_false fun z => hfull (by
          have := V.int.inj z
          omega)]
        refine iteF ⟨_, rfl, _, rfl, _, rfl, p, n, a, l, rfl, hA, ok, by omega, fun H1 o1 S R s1 I hz0 hT => ?_⟩
        rw [due_least_yes hs (by omega) I hz0] at q
        have hI := I.len
        have hGl := setG_len (p := p) (n := n) (k := l.length + 1) (S := S)
        have hGr := setG_rows p n (l.length + 1) S
        refine ⟨_, rfl, o1, _, rfl, hT.at_, by omega, fun H2 s2 => ⟨(by show 1 ≤ sizeLine; decide), fun o2 n2 => ?_⟩⟩
        have s3 := same_upd (o := .lst [V.int ((degT (setG p n (l.length + 1) S) : Nat) : Int)]) n2
        refine ⟨_, rfl, o1, _, n, rfl, (hT.same s2).same s3, hGr, hn3, by omega, fun H4 o4 s4 ho4 => ?_⟩
        refine ⟨o2, o4, _, _, rfl, rfl, s4 _ _ upd_same, ho4, ?_, fun o5 n5 => q _ o5 ?_⟩
        · have h5 : (setG p n (l.length + 1) S).length * (n + 1) ≤ 1000 * 4 := Nat.mul_le_mul (by omega) (by omega)
          have h6 := line_big
          rw [vn_len, flat_len hGr]
          show 1 + (setG p n (l.length + 1) S).length * (n + 1) ≤ sizeLine
          omega
        · rw [upd_same]
          rfl
end
end Nz
namespace Nz
open PySem PySem.Spec PyProof.Rows L2
/-! ### what the top has written -/
theorem all_mk {P : Program} {w : World} {K : PySem.W.Frag} {h : Heap} {mg : Str → Option Value} {fa aP fLe fIs fIe fTp fCp fPn fLw fSe fDg fJr fTq fTv fNf fFn fSc fSh : Addr} (X : K.In h) (G : h.Ns mainGlobals mg) (hfa : mg "least" = some (.ref fa))
    {odP odLe anLe odIs anIs odIe anIe odTp anTp odCp anCp odPn anPn odLw anLw odSe anSe odDg anDg odJr anJr odTq anTq odTv anTv odNf anNf odFn anFn odSc anSc odSh anSh : Option Addr} {slP slLe slIs slIe slTp slCp slPn slLw slSe slDg slJr slTq slTv slNf slFn slSc slSh : Array (Option Value)} {ocLe kVLe dcLe pmLe cdLe ctLe ocIs kVIs dcIs pmIs cdIs ctIs ocIe kVIe dcIe pmIe cdIe ctIe ocTp kVTp dcTp pmTp cdTp ctTp ocCp kVCp dcCp pmCp cdCp ctCp ocPn kVPn dcPn pmPn cdPn ctPn ocLw kVLw dcLw pmLw cdLw ctLw ocSe kVSe dcSe pmSe cdSe ctSe ocDg kVDg dcDg pmDg cdDg ctDg ocJr kVJr dcJr pmJr cdJr ctJr ocTq kVTq dcTq pmTq cdTq ctTq ocTv kVTv dcTv pmTv cdTv ctTv ocNf kVNf dcNf pmNf cdNf ctNf ocFn kVFn dcFn pmFn cdFn ctFn ocSc kVSc dcSc pmSc cdSc ctSc ocSh kVSh dcSh pmSh cdSh ctSh : Value} {nP : Nat} {tU tN tA tP1 tP2 tP3 tP4 : Tok}
    (aLe : PySem.W.nsIn K mainGlobals "least" = some (some (.ref fLe))) (lLe : K.lookup fLe = some ⟨ocLe, odLe, .func (PySem.W.fnOf "least" "least" (defArgs sLe) (defBody sLe) (defScope sLe) .none kVLe dcLe pmLe anLe cdLe ctLe), slLe⟩) (cLe : PySem.W.codeIn K cdLe "least" = true) (kLe : PySem.W.keepIn K (.ref fLe) = true)
    (aIs : PySem.W.nsIn K mainGlobals "is_space" = some (some (.ref fIs))) (lIs : K.lookup fIs = some ⟨ocIs, odIs, .func (PySem.W.fnOf "is_space" "is_space" (defArgs sIs) (defBody sIs) (defScope sIs) .none kVIs dcIs pmIs anIs cdIs ctIs), slIs⟩) (cIs : PySem.W.codeIn K cdIs "is_space" = true) (kIs : PySem.W.keepIn K (.ref fIs) = true)
    (aIe : PySem.W.nsIn K mainGlobals "is_set" = some (some (.ref fIe))) (lIe : K.lookup fIe = some ⟨ocIe, odIe, .func (PySem.W.fnOf "is_set" "is_set" (defArgs sIe) (defBody sIe) (defScope sIe) .none kVIe dcIe pmIe anIe cdIe ctIe), slIe⟩) (cIe : PySem.W.codeIn K cdIe "is_set" = true) (kIe : PySem.W.keepIn K (.ref fIe) = true)
    (aTp : PySem.W.nsIn K mainGlobals "term_place" = some (some (.ref fTp))) (lTp : K.lookup fTp = some ⟨ocTp, odTp, .func (PySem.W.fnOf "term_place" "term_place" (defArgs sTp) (defBody sTp) (defScope sTp) .none kVTp dcTp pmTp anTp cdTp ctTp), slTp⟩) (cTp : PySem.W.codeIn K cdTp "term_place" = true) (kTp : PySem.W.keepIn K (.ref fTp) = true)
    (aCp : PySem.W.nsIn K mainGlobals "count_points" = some (some (.ref fCp))) (lCp : K.lookup fCp = some ⟨ocCp, odCp, .func (PySem.W.fnOf "count_points" "count_points" (defArgs sCp) (defBody sCp) (defScope sCp) .none kVCp dcCp pmCp anCp cdCp ctCp), slCp⟩) (cCp : PySem.W.codeIn K cdCp "count_points" = true) (kCp : PySem.W.keepIn K (.ref fCp) = true)
    (aPn : PySem.W.nsIn K mainGlobals "point_numbers" = some (some (.ref fPn))) (lPn : K.lookup fPn = some ⟨ocPn, odPn, .func (PySem.W.fnOf "point_numbers" "point_numbers" (defArgs sPn) (defBody sPn) (defScope sPn) .none kVPn dcPn pmPn anPn cdPn ctPn), slPn⟩) (cPn : PySem.W.codeIn K cdPn "point_numbers" = true) (kPn : PySem.W.keepIn K (.ref fPn) = true)
    (aLw : PySem.W.nsIn K mainGlobals "low_terms" = some (some (.ref fLw))) (lLw : K.lookup fLw = some ⟨ocLw, odLw, .func (PySem.W.fnOf "low_terms" "low_terms" (defArgs sLw) (defBody sLw) (defScope sLw) .none kVLw dcLw pmLw anLw cdLw ctLw), slLw⟩) (cLw : PySem.W.codeIn K cdLw "low_terms" = true) (kLw : PySem.W.keepIn K (.ref fLw) = true)
    (aSe : PySem.W.nsIn K mainGlobals "set_terms" = some (some (.ref fSe))) (lSe : K.lookup fSe = some ⟨ocSe, odSe, .func (PySem.W.fnOf "set_terms" "set_terms" (defArgs sSe) (defBody sSe) (defScope sSe) .none kVSe dcSe pmSe anSe cdSe ctSe), slSe⟩) (cSe : PySem.W.codeIn K cdSe "set_terms" = true) (kSe : PySem.W.keepIn K (.ref fSe) = true)
    (aDg : PySem.W.nsIn K mainGlobals "degree" = some (some (.ref fDg))) (lDg : K.lookup fDg = some ⟨ocDg, odDg, .func (PySem.W.fnOf "degree" "degree" (defArgs sDg) (defBody sDg) (defScope sDg) .none kVDg dcDg pmDg anDg cdDg ctDg), slDg⟩) (cDg : PySem.W.codeIn K cdDg "degree" = true) (kDg : PySem.W.keepIn K (.ref fDg) = true)
    (aJr : PySem.W.nsIn K mainGlobals "joined_row" = some (some (.ref fJr))) (lJr : K.lookup fJr = some ⟨ocJr, odJr, .func (PySem.W.fnOf "joined_row" "joined_row" (defArgs sJr) (defBody sJr) (defScope sJr) .none kVJr dcJr pmJr anJr cdJr ctJr), slJr⟩) (cJr : PySem.W.codeIn K cdJr "joined_row" = true) (kJr : PySem.W.keepIn K (.ref fJr) = true)
    (aTq : PySem.W.nsIn K mainGlobals "term_values" = some (some (.ref fTq))) (lTq : K.lookup fTq = some ⟨ocTq, odTq, .func (PySem.W.fnOf "term_values" "term_values" (defArgs sTq) (defBody sTq) (defScope sTq) .none kVTq dcTq pmTq anTq cdTq ctTq), slTq⟩) (cTq : PySem.W.codeIn K cdTq "term_values" = true) (kTq : PySem.W.keepIn K (.ref fTq) = true)
    (aTv : PySem.W.nsIn K mainGlobals "term_value" = some (some (.ref fTv))) (lTv : K.lookup fTv = some ⟨ocTv, odTv, .func (PySem.W.fnOf "term_value" "term_value" (defArgs sTv) (defBody sTv) (defScope sTv) .none kVTv dcTv pmTv anTv cdTv ctTv), slTv⟩) (cTv : PySem.W.codeIn K cdTv "term_value" = true) (kTv : PySem.W.keepIn K (.ref fTv) = true)
    (aNf : PySem.W.nsIn K mainGlobals "nought_factors" = some (some (.ref fNf))) (lNf : K.lookup fNf = some ⟨ocNf, odNf, .func (PySem.W.fnOf "nought_factors" "nought_factors" (defArgs sNf) (defBody sNf) (defScope sNf) .none kVNf dcNf pmNf anNf cdNf ctNf), slNf⟩) (cNf : PySem.W.codeIn K cdNf "nought_factors" = true) (kNf : PySem.W.keepIn K (.ref fNf) = true)
    (aFn : PySem.W.nsIn K mainGlobals "first_not_nought" = some (some (.ref fFn))) (lFn : K.lookup fFn = some ⟨ocFn, odFn, .func (PySem.W.fnOf "first_not_nought" "first_not_nought" (defArgs sFn) (defBody sFn) (defScope sFn) .none kVFn dcFn pmFn anFn cdFn ctFn), slFn⟩) (cFn : PySem.W.codeIn K cdFn "first_not_nought" = true) (kFn : PySem.W.keepIn K (.ref fFn) = true)
    (aSc : PySem.W.nsIn K mainGlobals "scaled_row" = some (some (.ref fSc))) (lSc : K.lookup fSc = some ⟨ocSc, odSc, .func (PySem.W.fnOf "scaled_row" "scaled_row" (defArgs sSc) (defBody sSc) (defScope sSc) .none kVSc dcSc pmSc anSc cdSc ctSc), slSc⟩) (cSc : PySem.W.codeIn K cdSc "scaled_row" = true) (kSc : PySem.W.keepIn K (.ref fSc) = true)
    (aSh : PySem.W.nsIn K mainGlobals "shortened_row" = some (some (.ref fSh))) (lSh : K.lookup fSh = some ⟨ocSh, odSh, .func (PySem.W.fnOf "shortened_row" "shortened_row" (defArgs sSh) (defBody sSh) (defScope sSh) .none kVSh dcSh pmSh anSh cdSh ctSh), slSh⟩) (cSh : PySem.W.codeIn K cdSh "shortened_row" = true) (kSh : PySem.W.keepIn K (.ref fSh) = true)
    (aP_ : PySem.W.nsIn K mainGlobals "PRIMES" = some (some (.ref aP))) (lP : K.lookup aP = some ⟨.type "tuple", odP, .seq #[.int 2 tP1, .int 3 tP2, .int 5 tP3, .int 7 tP4] nP, slP⟩)
    (aU : PySem.W.nsIn K mainGlobals "MOST_UNKNOWNS" = some (some (.int (3) tU))) (aN : PySem.W.nsIn K mainGlobals "NOT_AS_TOLD" = some (some (.int (-22) tN))) (aA : PySem.W.nsIn K mainGlobals "ALL_POINTS" = some (some (.int (-33) tA)))
    (zr : PySem.W.nsIn K mainGlobals "range" = some none) (zl : PySem.W.nsIn K mainGlobals "len" = some none) (zu : PySem.W.nsIn K mainGlobals "sum" = some none) (zm : PySem.W.nsIn K mainGlobals "max" = some none) (zs : PySem.W.nsIn K mainGlobals "sorted" = some none) :
    ∃ fd : FuncData, (∀ (s : Shared) (us : List Value), us.length = (["p", "n", "s"] : List Str).length → BindsTo s fd ⟨us, []⟩ ((["p", "n", "s"] : List Str).zip us)) ∧ ∀ base : Heap, K.In base → base.Ns mainGlobals mg → FnOk P w K mg base CX0 6 fa fd ["p", "n", "s"] (spLe K) := by
  have e := hfa.symm.trans (PySem.W.mg_of X G aLe)
  cases e
  have FLe := fun_mk (st := sLe) lLe cLe kLe
  have FIs := fun_mk (st := sIs) lIs cIs kIs
  have bIs := FIs.binds (ps := ["p", "n"]) fun _ _ _ _ _ _ us hl => match us, hl with | [_, _], _ => rfl
  have FIe := fun_mk (st := sIe) lIe cIe kIe
  have bIe := FIe.binds (ps := ["p", "n", "s"]) fun _ _ _ _ _ _ us hl => match us, hl with | [_, _, _], _ => rfl
  have FTp := fun_mk (st := sTp) lTp cTp kTp
  have bTp := FTp.binds (ps := ["term"]) fun _ _ _ _ _ _ us hl => match us, hl with | [_], _ => rfl
  have FCp := fun_mk (st := sCp) lCp cCp kCp
  have bCp := FCp.binds (ps := ["p", "n"]) fun _ _ _ _ _ _ us hl => match us, hl with | [_, _], _ => rfl
  have FPn := fun_mk (st := sPn) lPn cPn kPn
  have bPn := FPn.binds (ps := ["p", "n", "x"]) fun _ _ _ _ _ _ us hl => match us, hl with | [_, _, _], _ => rfl
  have FLw := fun_mk (st := sLw) lLw cLw kLw
  have bLw := FLw.binds (ps := ["p", "n"]) fun _ _ _ _ _ _ us hl => match us, hl with | [_, _], _ => rfl
  have FSe := fun_mk (st := sSe) lSe cSe kSe
  have bSe := FSe.binds (ps := ["p", "n", "s"]) fun _ _ _ _ _ _ us hl => match us, hl with | [_, _, _], _ => rfl
  have FDg := fun_mk (st := sDg) lDg cDg kDg
  have bDg := FDg.binds (ps := ["terms"]) fun _ _ _ _ _ _ us hl => match us, hl with | [_], _ => rfl
  have FJr := fun_mk (st := sJr) lJr cJr kJr
  have bJr := FJr.binds (ps := ["terms"]) fun _ _ _ _ _ _ us hl => match us, hl with | [_], _ => rfl
  have FTq := fun_mk (st := sTq) lTq cTq kTq
  have bTq := FTq.binds (ps := ["p", "terms", "point"]) fun _ _ _ _ _ _ us hl => match us, hl with | [_, _, _], _ => rfl
  have FTv := fun_mk (st := sTv) lTv cTv kTv
  have bTv := FTv.binds (ps := ["p", "term", "point"]) fun _ _ _ _ _ _ us hl => match us, hl with | [_, _, _], _ => rfl
  have FNf := fun_mk (st := sNf) lNf cNf kNf
  have bNf := FNf.binds (ps := ["p", "rows"]) fun _ _ _ _ _ _ us hl => match us, hl with | [_, _], _ => rfl
  have FFn := fun_mk (st := sFn) lFn cFn kFn
  have bFn := FFn.binds (ps := ["rows"]) fun _ _ _ _ _ _ us hl => match us, hl with | [_], _ => rfl
  have FSc := fun_mk (st := sSc) lSc cSc kSc
  have bSc := FSc.binds (ps := ["p", "row"]) fun _ _ _ _ _ _ us hl => match us, hl with | [_, _], _ => rfl
  have FSh := fun_mk (st := sSh) lSh cSh kSh
  have bSh := FSh.binds (ps := ["p", "row", "chosen"]) fun _ _ _ _ _ _ us hl => match us, hl with | [_, _, _], _ => rfl
  have hP : ∀ H : Hp, SqT K H aP [.int 2, .int 3, .int 5, .int 7] := fun H => .inr ⟨_, _, _, lP, rfl, rfl, (by show 4 ≤ sizeLine; decide), .cons ⟨_, rfl⟩ (.cons ⟨_, rfl⟩ (.cons ⟨_, rfl⟩ (.cons ⟨_, rfl⟩ .nil)))⟩
  have L : Ls K mg fIs fIe fTp fCp fPn fLw fSe fDg fJr aP _ _ _ _ _ _ _ _ _ tU tN tA := ⟨FIs, FIe, FTp, FCp, FPn, FLw, FSe, FDg, FJr, bIs, bIe, bTp, bCp, bPn, bLw, bSe, bDg, bJr, PySem.W.mg_of X G aIs, PySem.W.mg_of X G aIe, PySem.W.mg_of X G aTp, PySem.W.mg_of X G aCp, PySem.W.mg_of X G aPn, PySem.W.mg_of X G aLw, PySem.W.mg_of X G aSe, PySem.W.mg_of X G aDg, PySem.W.mg_of X G aJr, PySem.W.mg_of X G aP_, PySem.W.mg_of X G aU, PySem.W.mg_of X G aN, PySem.W.mg_of X G aA, hP, PySem.W.mg_none_of X G zr, PySem.W.mg_none_of X G zl, PySem.W.mg_none_of X G zu, PySem.W.mg_none_of X G zm, PySem.W.mg_none_of X G zs⟩
  have M : Sv K mg fTq fTv fNf fFn fSc fSh _ _ _ _ _ _ := ⟨FTq, FTv, FNf, FFn, FSc, FSh, bTq, bTv, bNf, bFn, bSc, bSh, PySem.W.mg_of X G aTq, PySem.W.mg_of X G aTv, PySem.W.mg_of X G aNf, PySem.W.mg_of X G aFn, PySem.W.mg_of X G aSc, PySem.W.mg_of X G aSh⟩
  exact ⟨_, fun s us hu => match us, hu with | [_, _, _], _ => .of_eq rfl, fun base _ _ => ok_le FLe L M⟩
/-- a request's list, as natural numbers -/
theorem nat_of {l : List Int} {hi : Int} (h : l.all (PySem.W.Codec.inInt 0 hi) = true) : l = natI (l.map Int.toNat) := by
  rw [natI, List.map_map]
  refine ((List.map_congr_left fun x hx => ?_).trans (List.map_id l)).symm
  have q := PySem.W.Codec.inInt_iff.mp (List.all_eq_true.mp h x hx)
  show ((x.toNat : Nat) : Int) = x
  omega
end Nz
open PySem PySem.W PyProof.Rows
set_option maxRecDepth 100000 in
set_option maxHeartbeats 8000000 in
theorem PySem.Challenge.cw_noughtsets_s06_least_holds : PySem.Challenge.rw_noughtsets_s06_least.Holds := by
  w_on; k_headS; (case hw => exact ⟨[.int 0, .int 0, .list []], by decide +kernel, by decide +kernel⟩)
  k_fillS
  refine L2.walk_specK (r := PySem.Challenge.rw_noughtsets_s06_least) (k := 6) (CX := L2.CX0) (ps := ["p", "n", "s"]) (sp := Nz.spLe) (by decide +kernel) rfl rfl ⟨rfl, by decide, by decide⟩ (fun w h Y => PySem.W.kIn_of Y) ?F ?S (fun _ _ _ _ z => z)
  case F =>
    intro w mg fa h Y KX G hmg
    refine' Nz.all_mk KX G hmg ?aLe ?lLe ?cLe ?kLe ?aIs ?lIs ?cIs ?kIs ?aIe ?lIe ?cIe ?kIe ?aTp ?lTp ?cTp ?kTp ?aCp ?lCp ?cCp ?kCp ?aPn ?lPn ?cPn ?kPn ?aLw ?lLw ?cLw ?kLw ?aSe ?lSe ?cSe ?kSe ?aDg ?lDg ?cDg ?kDg ?aJr ?lJr ?cJr ?kJr ?aTq ?lTq ?cTq ?kTq ?aTv ?lTv ?cTv ?kTv ?aNf ?lNf ?cNf ?kNf ?aFn ?lFn ?cFn ?kFn ?aSc ?lSc ?cSc ?kSc ?aSh ?lSh ?cSh ?kSh ?aP_ ?lP ?aU ?aN ?aA ?zr ?zl ?zu ?zm ?zs
    (case aLe => k_is); (case lLe => k_is); (case cLe => k_is); (case kLe => k_is); (case aIs => k_is); (case lIs => k_is); (case cIs => k_is); (case kIs => k_is); (case aIe => k_is); (case lIe => k_is); (case cIe => k_is); (case kIe => k_is); (case aTp => k_is); (case lTp => k_is); (case cTp => k_is); (case kTp => k_is); (case aCp => k_is); (case lCp => k_is); (case cCp => k_is); (case kCp => k_is); (case aPn => k_is); (case lPn => k_is); (case cPn => k_is); (case kPn => k_is); (case aLw => k_is); (case lLw => k_is); (case cLw => k_is); (case kLw => k_is); (case aSe => k_is); (case lSe => k_is); (case cSe => k_is); (case kSe => k_is); (case aDg => k_is); (case lDg => k_is); (case cDg => k_is); (case kDg => k_is); (case aJr => k_is); (case lJr => k_is); (case cJr => k_is); (case kJr => k_is); (case aTq => k_is); (case lTq => k_is); (case cTq => k_is); (case kTq => k_is); (case aTv => k_is); (case lTv => k_is); (case cTv => k_is); (case kTv => k_is); (case aNf => k_is); (case lNf => k_is); (case cNf => k_is); (case kNf => k_is); (case aFn => k_is); (case lFn => k_is); (case cFn => k_is); (case kFn => k_is); (case aSc => k_is); (case lSc => k_is); (case cSc => k_is); (case kSc => k_is); (case aSh => k_is); (case lSh => k_is); (case cSh => k_is); (case kSh => k_is); (case aP_ => k_is); (case lP => k_is); (case aU => k_is); (case aN => k_is); (case aA => k_is); (case zr => k_is); (case zl => k_is); (case zu => k_is); (case zm => k_is); (case zs => k_is)
  case S =>
    intro K H xs a hO hwi hask hx
    obtain ⟨p, n, s, u⟩ := a
    have q : (Codec.inInt 0 4294967295 p && (Codec.inInt 0 4294967295 n && ((Codec.inLen 0 400 s && s.all (Codec.inInt 0 4294967295)) && true))) = true := hwi
    simp only [Bool.and_eq_true] at q
    obtain ⟨qp, qn, ⟨qs, rs⟩, _⟩ := q
    have ep : p = ((p.toNat : Nat) : Int) := (Int.toNat_of_nonneg (Codec.inInt_iff.mp qp).1).symm
    have en : n = ((n.toNat : Nat) : Int) := (Int.toNat_of_nonneg (Codec.inInt_iff.mp qn).1).symm
    have es := Nz.nat_of rs
    have hs : (s.map Int.toNat).length ≤ 400 := by
      rw [List.length_map]
      exact (Codec.inNat_iff.mp qs).2
    generalize p.toNat = p' at ep
    generalize n.toNat = n' at en
    generalize s.map Int.toNat = s' at es hs
    subst ep en es
    cases hx with
    | cons a0 b0 =>
      cases b0 with
      | cons a1 b1 =>
        cases b1 with
        | cons a2 b2 =>
          cases b2
          cases a0
          cases a1
          cases a2 with
          | lst s2 w2 =>
            have z2 := L2.ints_dw (Nz.natI s') _ w2
            subst z2
            exact ⟨p', n', _, s', rfl, s2, hs, fun H' o ho => .lst (L2.SqL.of ho) (L2.dw_ints _)⟩
#print axioms PySem.Challenge.cw_noughtsets_s06_least_holds
