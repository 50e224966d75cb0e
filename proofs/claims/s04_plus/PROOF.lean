import PyProof.Rows.All
import Wide.All
import OpenK.AllK
import Wide.FinOn
import KE.LtData
import HandS.List
import HandS.Comp
import HandS.Iter
import HandS.Words
import KE.SortKeyHeap
import HandS.SortKw
import HandS.Codes
import HandS.ForMost
import HandS.Walk
import Open.SpecLaws
import KE.OsGo
import HandS.ForSpec
import PySem.Challenge.RW_noughtsets_s04_plus
set_option Elab.async false
set_option linter.all false
set_option maxRecDepth 100000
set_option maxHeartbeats 1000000
namespace Nz
open Kzt1
/-! ### the row of a polynomial, cut -/
def tm (t : List Nat) : Term := ⟨t.headD 0, t.tail⟩
theorem tm_cons (c : Nat) (e : List Nat) : tm (c :: e) = ⟨c, e⟩ := rfl
def Rows (n : Nat) (T : List (List Nat)) : Prop := ∀ t ∈ T, t.length = n + 1
theorem Rows.tail {n : Nat} {t : List Nat} {T : List (List Nat)} (h : Rows n (t :: T)) : Rows n T := fun u hu => h u (List.mem_cons_of_mem _ hu)
theorem Rows.head {n : Nat} {t : List Nat} {T : List (List Nat)} (h : Rows n (t :: T)) : t.length = n + 1 := h t (List.mem_cons_self ..)
theorem flat_len {n : Nat} : ∀ {T : List (List Nat)}, Rows n T → T.flatten.length = T.length * (n + 1)
  | [], _ => by simp
  | t :: T, h => by
    rw [List.flatten_cons, List.length_append, flat_len h.tail, h.head, List.length_cons, Nat.succ_mul]
    omega
theorem cut_rows {n : Nat} : ∀ (T : List (List Nat)) (i : Nat), Rows n T → T.flatten.length ≤ i → cut n i T.flatten = some (T.map tm)
  | [], i, _, _ => by
    cases i <;> rfl
  | t :: T, i, h, hi => by
    have ht := h.head
    cases t with
    | nil => simp at ht
    | cons c e =>
      have he : e.length = n := by simpa using ht
      rw [List.flatten_cons, List.cons_append] at hi ⊢
      cases i with
      | zero => simp at hi
      | succ i =>
        have hi2 : (e ++ T.flatten).length ≤ i := by
          rw [List.length_cons] at hi
          omega
        rw [cut]
        rw [if_neg (by rw [List.length_append]; omega)]
        rw [List.drop_left' he, List.take_left' he, cut_rows T i h.tail (by rw [List.length_append] at hi2; omega)]
        rfl
theorem cut_none {n : Nat} : ∀ (i : Nat) (l : List Nat), l.length % (n + 1) ≠ 0 → l.length ≤ i → cut n i l = none
  | i, [], h, _ => by simp at h
  | 0, c :: l, _, hi => by simp at hi
  | i + 1, c :: l, h, hi => by
    rw [cut]
    by_cases hc : l.length < n
    · rw [if_pos hc]
    · rw [if_neg hc]
      rw [cut_none i (l.drop n) ?_ ?_]
      · rfl
      · rw [List.length_drop]
        rw [List.length_cons] at h
        intro q
        apply h
        have e : l.length + 1 = (l.length - n) + (n + 1) := by omega
        rw [e, Nat.add_mod_right]
        exact q
      · rw [List.length_drop]
        rw [List.length_cons] at hi
        omega
theorem rows_ex {n : Nat} : ∀ (m : Nat) (l : List Nat), l.length = m * (n + 1) → ∃ T : List (List Nat), T.flatten = l ∧ Rows n T ∧ T.length = m
  | 0, l, h => by
    rw [Nat.zero_mul] at h
    exact ⟨[], (List.eq_nil_of_length_eq_zero h).symm, (fun _ h => by cases h), rfl⟩
  | m + 1, l, h => by
    rw [Nat.succ_mul] at h
    obtain ⟨T, e1, e2, e3⟩ := rows_ex (n := n) m (l.drop (n + 1)) (by rw [List.length_drop]; omega)
    refine ⟨l.take (n + 1) :: T, ?_, ?_, by rw [List.length_cons, e3]⟩
    · rw [List.flatten_cons, e1, List.take_append_drop]
    · intro t ht
      rcases List.mem_cons.mp ht with rfl | ht
      · rw [List.length_take]
        omega
      · exact e2 t ht
/-- the i-th piece of the row is the i-th of its terms -/
theorem piece {n : Nat} : ∀ {T : List (List Nat)} {i : Nat} {t : List Nat}, Rows n T → T[i]? = some t → (T.flatten.drop (i * (n + 1))).take (n + 1) = t
  | [], i, t, _, h => by simp at h
  | u :: T, 0, t, r, h => by
    have e : u = t := Option.some.inj h
    subst e
    rw [Nat.zero_mul, List.drop_zero, List.flatten_cons, List.take_left' r.head]
  | u :: T, i + 1, t, r, h => by
    have ih := piece (i := i) r.tail h
    have hd : ((u :: T).flatten).drop ((i + 1) * (n + 1)) = T.flatten.drop (i * (n + 1)) := by
      rw [List.flatten_cons, Nat.succ_mul, Nat.add_comm, ← List.drop_drop, List.drop_left' r.head]
    rw [hd]
    exact ih
/-! ### the order of terms -/
theorem lexB_irr : ∀ e : List Nat, lexBefore e e = false
  | [] => rfl
  | a :: l => by
    rw [lexBefore, lexB_irr l]
    simp
theorem lexB_trans : ∀ (a b c : List Nat), lexBefore a b = true → lexBefore b c = true → lexBefore a c = true
  | [], _, _, h, _ => by simp [lexBefore] at h
  | _ :: _, [], _, h, _ => by simp [lexBefore] at h
  | _ :: _, _ :: _, [], _, h => by simp [lexBefore] at h
  | x :: a, y :: b, z :: c, h1, h2 => by
    simp only [lexBefore, Bool.or_eq_true, Bool.and_eq_true, decide_eq_true_eq, beq_iff_eq] at h1 h2 ⊢
    rcases h1 with h1 | ⟨h1, k1⟩ <;> rcases h2 with h2 | ⟨h2, k2⟩
    · left; omega
    · left; omega
    · left; omega
    · right
      exact ⟨by omega, lexB_trans a b c k1 k2⟩
theorem lexB_tri : ∀ (a b : List Nat), a.length = b.length → a ≠ b → lexBefore a b = false → lexBefore b a = true
  | [], [], _, h, _ => absurd rfl h
  | [], _ :: _, h, _, _ => by simp at h
  | _ :: _, [], h, _, _ => by simp at h
  | x :: a, y :: b, hl, hne, h => by
    simp only [lexBefore, Bool.or_eq_false_iff, Bool.and_eq_false_iff, decide_eq_false_iff_not, beq_eq_false_iff_ne] at h
    simp only [lexBefore, Bool.or_eq_true, Bool.and_eq_true, decide_eq_true_eq, beq_iff_eq]
    by_cases e : x = y
    · right
      subst e
      refine ⟨rfl, lexB_tri a b (by simpa using hl) (fun z => hne (by rw [z])) ?_⟩
      rcases h.2 with q | q
      · exact absurd rfl q
      · exact q
    · left
      omega
theorem bef_irr (e : List Nat) : before e e = false := by
  simp [before, lexB_irr]
theorem bef_trans {a b c : List Nat} (h1 : before a b = true) (h2 : before b c = true) : before a c = true := by
  simp only [before, Bool.or_eq_true, Bool.and_eq_true, decide_eq_true_eq, beq_iff_eq] at h1 h2 ⊢
  rcases h1 with h1 | ⟨h1, k1⟩ <;> rcases h2 with h2 | ⟨h2, k2⟩
  · left; omega
  · left; omega
  · left; omega
  · right
    exact ⟨by omega, lexB_trans a b c k1 k2⟩
theorem bef_asym {a b : List Nat} (h : before a b = true) : before b a = false := by
  cases e : before b a with
  | false => rfl
  | true =>
    have := bef_trans h e
    rw [bef_irr] at this
    cases this
theorem bef_ne {a b : List Nat} (h : before a b = true) : a ≠ b := fun e => by
  subst e
  rw [bef_irr] at h
  cases h
theorem bef_tri {a b : List Nat} (hl : a.length = b.length) (hne : a ≠ b) (h : before a b = false) : before b a = true := by
  simp only [before, Bool.or_eq_false_iff, Bool.and_eq_false_iff, decide_eq_false_iff_not, beq_eq_false_iff_ne] at h
  simp only [before, Bool.or_eq_true, Bool.and_eq_true, decide_eq_true_eq, beq_iff_eq]
  by_cases e : total a = total b
  · right
    refine ⟨e.symm, lexB_tri a b hl hne ?_⟩
    rcases h.2 with q | q
    · exact absurd e q
    · exact q
  · left
    omega
/-! ### norm -/
def Srt (l : List Term) : Prop := l.Pairwise fun a b => before a.e b.e = true
def Lens (n : Nat) (l : List Term) : Prop := ∀ t ∈ l, t.e.length = n
theorem put_mem {p : Nat} {t : Term} : ∀ {l : List Term} {u : Term}, u ∈ put p t l → u.e = t.e ∨ ∃ v ∈ l, u.e = v.e
  | [], u, h => by
    unfold put at h
    split at h
    · cases h
    · left
      rw [List.mem_singleton.mp h]
  | v :: l, u, h => by
    unfold put at h
    split at h
    · split at h
      · exact .inr ⟨u, List.mem_cons_of_mem _ h, rfl⟩
      · rcases List.mem_cons.mp h with rfl | h
        · exact .inr ⟨v, List.mem_cons_self .., rfl⟩
        · exact .inr ⟨u, List.mem_cons_of_mem _ h, rfl⟩
    · split at h
      · split at h
        · exact .inr ⟨u, h, rfl⟩
        · rcases List.mem_cons.mp h with rfl | h
          · exact .inl rfl
          · exact .inr ⟨u, h, rfl⟩
      · rcases List.mem_cons.mp h with rfl | h
        · exact .inr ⟨u, List.mem_cons_self .., rfl⟩
        · rcases put_mem h with q | ⟨w, hw, q⟩
          · exact .inl q
          · exact .inr ⟨w, List.mem_cons_of_mem _ hw, q⟩
theorem put_lens {n p : Nat} {t : Term} {l : List Term} (ht : t.e.length = n) (hl : Lens n l) : Lens n (put p t l) := fun u hu => by
  rcases put_mem hu with q | ⟨v, hv, q⟩
  · rw [q, ht]
  · rw [q, hl v hv]
theorem put_srt {n p : Nat} {t : Term} : ∀ {l : List Term}, t.e.length = n → Lens n l → Srt l → Srt (put p t l)
  | [], _, _, _ => by
    unfold put
    split
    · exact List.Pairwise.nil
    · exact List.pairwise_singleton _ _
  | v :: l, ht, hl, hs => by
    have hs1 := List.pairwise_cons.mp hs
    have hl1 : Lens n l := fun u hu => hl u (List.mem_cons_of_mem _ hu)
    unfold put
    split
    · split
      · exact hs1.2
      · exact List.pairwise_cons.mpr ⟨hs1.1, hs1.2⟩
    · rename_i hne
      split
      · rename_i hb
        split
        · exact hs
        · refine List.pairwise_cons.mpr ⟨fun u hu => ?_, hs⟩
          rcases List.mem_cons.mp hu with rfl | hu
          · exact hb
          · exact bef_trans hb (hs1.1 u hu)
      · rename_i hb
        have hvt : before v.e t.e = true := bef_tri (by rw [ht, hl v (List.mem_cons_self ..)]) hne (by simpa using hb)
        refine List.pairwise_cons.mpr ⟨fun u hu => ?_, put_srt ht hl1 hs1.2⟩
        rcases put_mem hu with q | ⟨w, hw, q⟩
        · rw [q]
          exact hvt
        · rw [q]
          exact hs1.1 w hw
theorem fold_srt {n p : Nat} : ∀ (f acc : List Term), Lens n f → Lens n acc → Srt acc → Srt (f.foldl (fun a t => put p t a) acc) ∧ Lens n (f.foldl (fun a t => put p t a) acc)
  | [], acc, _, ha, hs => ⟨hs, ha⟩
  | t :: f, acc, hf, ha, hs => by
    have ht := hf t (List.mem_cons_self ..)
    exact fold_srt f (put p t acc) (fun u hu => hf u (List.mem_cons_of_mem _ hu)) (put_lens ht ha) (put_srt ht ha hs)
theorem norm_srt {n p : Nat} {f : List Term} (h : Lens n f) : Srt (norm p f) := (fold_srt f [] h (fun _ h => by cases h) List.Pairwise.nil).1
theorem norm_lens {n p : Nat} {f : List Term} (h : Lens n f) : Lens n (norm p f) := (fold_srt f [] h (fun _ h => by cases h) List.Pairwise.nil).2
theorem put_last {p : Nat} {t : Term} (h1 : 1 ≤ t.c) (h2 : t.c < p) : ∀ {l : List Term}, (∀ u ∈ l, before u.e t.e = true) → put p t l = l ++ [t]
  | [], _ => by
    unfold put
    rw [Nat.mod_eq_of_lt h2, if_neg (by omega)]
    rfl
  | v :: l, h => by
    have hv := h v (List.mem_cons_self ..)
    unfold put
    rw [if_neg (fun e => bef_ne hv e.symm), if_neg (by rw [bef_asym hv]; exact Bool.false_ne_true), put_last h1 h2 fun u hu => h u (List.mem_cons_of_mem _ hu)]
    rfl
def Facs (p : Nat) (l : List Term) : Prop := ∀ t ∈ l, 1 ≤ t.c ∧ t.c < p
theorem fold_id {p : Nat} : ∀ (f acc : List Term), Facs p f → Srt (acc ++ f) → f.foldl (fun a t => put p t a) acc = acc ++ f
  | [], acc, _, _ => by simp
  | t :: f, acc, hf, hs => by
    have ht := hf t (List.mem_cons_self ..)
    have h1 := List.pairwise_append.mp hs
    rw [List.foldl_cons, put_last ht.1 ht.2 fun u hu => h1.2.2 u hu t (List.mem_cons_self ..)]
    have hs2 : Srt ((acc ++ [t]) ++ f) := by
      rw [List.append_assoc]
      exact hs
    rw [fold_id f (acc ++ [t]) (fun u hu => hf u (List.mem_cons_of_mem _ hu)) hs2, List.append_assoc]
    rfl
theorem norm_id {p : Nat} {f : List Term} (hf : Facs p f) (hs : Srt f) : norm p f = f := (fold_id f [] hf hs).trans (List.nil_append f)
/-! ### what is asked of a row -/
def isT (p : Nat) (t : List Nat) : Bool := decide (1 ≤ t.headD 0) && decide (t.headD 0 < p) && t.tail.all fun x => decide (x ≤ 12)
def chain : List (List Nat) → Bool
  | a :: b :: r => before a.tail b.tail && chain (b :: r)
  | _ => true
theorem chain_iff : ∀ T : List (List Nat), chain T = true ↔ ∀ (i : Nat) (a b : List Nat), T[i]? = some a → T[i + 1]? = some b → before a.tail b.tail = true
  | [] => by simp [chain]
  | [_] => by simp [chain]
  | a :: b :: r => by
    rw [chain, Bool.and_eq_true, chain_iff (b :: r)]
    constructor
    · rintro ⟨h1, h2⟩ i x y hx hy
      cases i with
      | zero =>
        have e1 : a = x := Option.some.inj hx
        have e2 : b = y := Option.some.inj hy
        rw [← e1, ← e2]
        exact h1
      | succ i => exact h2 i x y hx hy
    · intro h
      exact ⟨h 0 a b rfl rfl, fun i x y hx hy => h (i + 1) x y hx hy⟩
theorem chain_srt : ∀ T : List (List Nat), chain T = true ↔ Srt (T.map tm)
  | [] => ⟨fun _ => List.Pairwise.nil, fun _ => rfl⟩
  | [_] => ⟨fun _ => List.pairwise_singleton _ _, fun _ => rfl⟩
  | a :: b :: r => by
    rw [chain, Bool.and_eq_true, chain_srt (b :: r)]
    constructor
    · rintro ⟨h1, h2⟩
      refine List.pairwise_cons.mpr ⟨fun u hu => ?_, h2⟩
      rcases List.mem_cons.mp hu with rfl | hu
      · exact h1
      · exact bef_trans h1 ((List.pairwise_cons.mp h2).1 u hu)
    · intro h
      have h1 := List.pairwise_cons.mp h
      exact ⟨h1.1 (tm b) (List.mem_cons_self ..), h1.2⟩
def okRow (p : Nat) (T : List (List Nat)) : Bool := T.all (isT p) && chain T
theorem rows_lens {n : Nat} {T : List (List Nat)} (h : Rows n T) : Lens n (T.map tm) := fun t ht => by
  obtain ⟨u, hu, rfl⟩ := List.mem_map.mp ht
  show u.tail.length = n
  rw [List.length_tail, h u hu]
  rfl
theorem okRow_facs {p : Nat} {T : List (List Nat)} (h : T.all (isT p) = true) : Facs p (T.map tm) := fun t ht => by
  obtain ⟨u, hu, rfl⟩ := List.mem_map.mp ht
  have q := List.all_eq_true.mp h u hu
  simp only [isT, Bool.and_eq_true, decide_eq_true_eq] at q
  exact q.1
theorem okPoly_is {p n : Nat} {T : List (List Nat)} (h : Rows n T) : okPoly p n (T.map tm) = okRow p T := by
  have e1 : ((T.map tm).all fun t => decide (1 ≤ t.c) && decide (t.c < p) && t.e.length == n && t.e.all fun x => decide (x ≤ 12)) = T.all (isT p) := by
    rw [List.all_map]
    apply Bool.eq_iff_iff.mpr
    rw [List.all_eq_true, List.all_eq_true]
    have e2 : ∀ u ∈ T, ((fun t : Term => decide (1 ≤ t.c) && decide (t.c < p) && t.e.length == n && t.e.all fun x => decide (x ≤ 12)) ∘ tm) u = isT p u := fun u hu => by
      have e3 : ((tm u).e.length == n) = true := by
        rw [beq_iff_eq]
        exact rows_lens h (tm u) (List.mem_map_of_mem hu)
      show (decide (1 ≤ (tm u).c) && decide ((tm u).c < p) && (tm u).e.length == n && (tm u).e.all fun x => decide (x ≤ 12)) = isT p u
      rw [e3, Bool.and_true]
      rfl
    constructor
    · intro q u hu
      rw [← e2 u hu]
      exact q u hu
    · intro q u hu
      rw [e2 u hu]
      exact q u hu
  rw [okPoly, e1, okRow]
  by_cases c : T.all (isT p) = true
  · rw [c, Bool.true_and, Bool.true_and]
    apply Bool.eq_iff_iff.mpr
    rw [beq_iff_eq, chain_srt]
    constructor
    · intro q
      rw [← q]
      exact norm_srt (rows_lens h)
    · intro q
      exact norm_id (okRow_facs c) q
  · rw [Bool.not_eq_true] at c
    rw [c, Bool.false_and, Bool.false_and]
theorem read_rows {p n : Nat} {T : List (List Nat)} (h : Rows n T) : readPoly p n T.flatten = if okRow p T = true then some (T.map tm) else none := by
  rw [readPoly, cut_rows T _ h (Nat.le_refl _)]
  show (if okPoly p n (T.map tm) = true then some (T.map tm) else none) = _
  rw [okPoly_is h]
theorem read_none {p n : Nat} {l : List Nat} (h : l.length % (n + 1) ≠ 0) : readPoly p n l = none := by
  rw [readPoly, cut_none _ l h (Nat.le_refl _)]
end Nz
namespace Nz
open Kzt1
/-! ### values -/
/-- v times a, k times over -/
def timesN (p a : Nat) : Nat → Nat → Nat
  | 0, v => v
  | k + 1, v => timesN p a k v * a % p
theorem timesN_lt {p a : Nat} (h : 0 < p) : ∀ (k v : Nat), v < p → timesN p a k v < p
  | 0, _, hv => hv
  | k + 1, v, _ => Nat.mod_lt _ h
theorem powMod_lt {p a : Nat} (h : 0 < p) : ∀ k : Nat, powMod p a k < p
  | 0 => Nat.mod_lt _ h
  | k + 1 => Nat.mod_lt _ h
theorem timesN_is {p a : Nat} (h : 1 < p) : ∀ (k v : Nat), v < p → timesN p a k v = v * powMod p a k % p
  | 0, v, hv => by
    show v = v * (1 % p) % p
    rw [Nat.mod_eq_of_lt h, Nat.mul_one, Nat.mod_eq_of_lt hv]
  | k + 1, v, hv => by
    show timesN p a k v * a % p = v * (powMod p a k * a % p) % p
    rw [timesN_is h k v hv]
    rw [Nat.mod_mul_mod, Nat.mul_mod_mod, Nat.mul_assoc]
/-- one term: factor c, then for each unknown its number as often as told -/
def tvE (p : Nat) : List (Nat × Nat) → Nat → Nat
  | [], v => v
  | y :: r, v => tvE p r (timesN p y.2 y.1 v)
theorem tvE_is {p : Nat} (h : 1 < p) : ∀ (l : List (Nat × Nat)) (v : Nat), v < p → tvE p l v = l.foldl (fun v y => v * powMod p y.2 y.1 % p) v
  | [], _, _ => rfl
  | y :: r, v, hv => by
    show tvE p r (timesN p y.2 y.1 v) = r.foldl _ (v * powMod p y.2 y.1 % p)
    rw [← timesN_is h _ _ hv]
    exact tvE_is h r _ (timesN_lt (by omega) _ _ hv)
theorem tvE_lt {p : Nat} (h : 0 < p) : ∀ (l : List (Nat × Nat)) (v : Nat), v < p → tvE p l v < p
  | [], _, hv => hv
  | y :: r, v, hv => tvE_lt h r _ (timesN_lt h _ _ hv)
theorem tvE_app {p : Nat} : ∀ (l r : List (Nat × Nat)) (v : Nat), tvE p (l ++ r) v = tvE p r (tvE p l v)
  | [], _, _ => rfl
  | y :: l, r, v => tvE_app l r _
/-- one term at a point -/
def tv (p : Nat) (t x : List Nat) : Nat := tvE p (t.tail.zip x) (t.headD 0)
/-- all terms: each time the remainder -/
def rv (p : Nat) (x : List Nat) (T : List (List Nat)) : Nat := T.foldl (fun a t => (a + tv p t x) % p) 0
theorem rv_snoc (p : Nat) (x : List Nat) (T : List (List Nat)) (t : List Nat) : rv p x (T ++ [t]) = (rv p x T + tv p t x) % p := by
  rw [rv, List.foldl_append]
  rfl
theorem rv_lt {p : Nat} (hp : 0 < p) (x : List Nat) (T : List (List Nat)) : rv p x T < p := by
  rcases List.eq_nil_or_concat T with rfl | ⟨l, t, rfl⟩
  · exact hp
  · rw [List.concat_eq_append, rv_snoc]
    exact Nat.mod_lt _ hp
theorem fold_mod {α : Type} (p : Nat) (g : α → Nat) : ∀ (l : List α) (a : Nat), l.foldl (fun a t => (a + g t) % p) (a % p) = (l.map g).foldl (· + ·) a % p
  | [], _ => rfl
  | t :: l, a => by
    rw [List.foldl_cons, List.map_cons, List.foldl_cons, ← fold_mod p g l (a + g t), Nat.mod_add_mod]
theorem rv_is {p : Nat} {T : List (List Nat)} (hp : 1 < p) (hf : Facs p (T.map tm)) (x : List Nat) : rv p x T = Kzt1.value p (T.map tm) x := by
  have e0 : (0 : Nat) = 0 % p := (Nat.zero_mod p).symm
  rw [rv, Kzt1.value]
  have e1 : T.foldl (fun a t => (a + tv p t x) % p) (0 % p) = (T.map fun t => tv p t x).foldl (· + ·) 0 % p := fold_mod p (fun t => tv p t x) T 0
  rw [← e0] at e1
  rw [e1, List.map_map]
  congr 2
  apply List.map_congr_left
  intro t ht
  have q := hf (tm t) (List.mem_map_of_mem ht)
  exact tvE_is hp _ _ q.2
/-! ### points -/
theorem coords_snoc (p k x : Nat) : coords p (k + 1) x = coords p k x ++ [x / p ^ k % p] := by
  rw [coords, coords, List.range_succ, List.map_append]
  rfl
theorem coords_len (p n x : Nat) : (coords p n x).length = n := by
  rw [coords, List.length_map, List.length_range]
/-! ### zeros -/
def zs (p n : Nat) (T : List (List Nat)) (k : Nat) : List Nat := (List.range k).filter fun x => rv p (coords p n x) T == 0
theorem zs_succ (p n : Nat) (T : List (List Nat)) (k : Nat) : zs p n T (k + 1) = if rv p (coords p n k) T = 0 then zs p n T k ++ [k] else zs p n T k := by
  rw [zs, zs, List.range_succ, List.filter_append]
  by_cases c : rv p (coords p n k) T = 0
  · rw [if_pos c]
    simp [c]
  · rw [if_neg c]
    simp [c]
theorem zs_len (p n : Nat) (T : List (List Nat)) (k : Nat) : (zs p n T k).length ≤ k := by
  have := List.length_filter_le (fun x => rv p (coords p n x) T == 0) (List.range k)
  rw [List.length_range] at this
  exact this
theorem zs_is {p n : Nat} {T : List (List Nat)} (hp : 1 < p) (hf : Facs p (T.map tm)) : zs p n T (p ^ n) = Kzt1.zeros p n (T.map tm) := by
  rw [zs, Kzt1.zeros, space]
  congr 1
  funext x
  rw [rv_is hp hf]
  rfl
/-! ### what is due -/
def natI (l : List Nat) : List Int := l.map fun x : Nat => (x : Int)
theorem nats_natI (l : List Nat) : Kzt1Neutral.natsOf (natI l) = l := by
  rw [Kzt1Neutral.natsOf, natI, List.map_map]
  exact (List.map_congr_left fun x _ => Int.toNat_natCast x).trans (List.map_id l)
theorem okField_iff {p n : Nat} : okField p n = true ↔ (p = 2 ∨ p = 3 ∨ p = 5 ∨ p = 7) ∧ 1 ≤ n ∧ n ≤ 3 := by
  simp only [okField, Bool.and_eq_true, Bool.or_eq_true, beq_iff_eq, decide_eq_true_eq, or_assoc, and_assoc]
theorem okField_p {p n : Nat} (h : okField p n = true) : 1 < p ∧ p ≤ 7 := by
  have := (okField_iff.mp h).1
  omega
theorem okField_n {p n : Nat} (h : okField p n = true) : 1 ≤ n ∧ n ≤ 3 := (okField_iff.mp h).2
/-- is it a polynomial, with p and n as they should be -/
def isP (p n : Nat) (l : List Nat) : Bool := okField p n && (readPoly p n l).isSome
theorem isP_mod {p n : Nat} {l : List Nat} (h : l.length % (n + 1) ≠ 0) : isP p n l = false := by
  rw [isP, read_none h, Option.isSome_none, Bool.and_false]
theorem isP_rows {p n : Nat} {T : List (List Nat)} (h1 : okField p n = true) (h : Rows n T) : isP p n T.flatten = okRow p T := by
  rw [isP, read_rows h, h1, Bool.true_and]
  cases okRow p T <;> rfl
theorem isP_field {p n : Nat} {l : List Nat} (h : okField p n = false) : isP p n l = false := by
  rw [isP, h, Bool.false_and]
/-- a polynomial's terms -/
theorem isP_ex {p n : Nat} {l : List Nat} (h : isP p n l = true) : okField p n = true ∧ ∃ T : List (List Nat), T.flatten = l ∧ Rows n T ∧ okRow p T = true ∧ readPoly p n l = some (T.map tm) := by
  rw [isP, Bool.and_eq_true] at h
  refine ⟨h.1, ?_⟩
  by_cases c : l.length % (n + 1) = 0
  · obtain ⟨T, e1, e2, _⟩ := rows_ex (n := n) (l.length / (n + 1)) l (by
      have := Nat.div_add_mod l.length (n + 1)
      rw [c, Nat.add_zero, Nat.mul_comm] at this
      exact this.symm)
    subst e1
    have q := h.2
    rw [read_rows e2] at q
    by_cases o : okRow p T = true
    · exact ⟨T, rfl, e2, o, by rw [read_rows e2, if_pos o]⟩
    · rw [if_neg o] at q
      cases q
  · have q := h.2
    rw [read_none c] at q
    cases q
theorem due_refused {p n : Nat} {l : List Nat} (h : isP p n l = false) (g : List Term → Ans) : (if okField p n = false then say (-22) else withPoly p n l g) = say (-22) := by
  by_cases c : okField p n = false
  · rw [if_pos c]
  · rw [if_neg c]
    have c' : okField p n = true := by simpa using c
    rw [isP, c', Bool.true_and] at h
    rw [withPoly]
    cases e : readPoly p n l with
    | none => rfl
    | some f =>
      rw [e] at h
      cases h
theorem due_taken {p n : Nat} {l : List Nat} {f : List Term} (h : okField p n = true) (hr : readPoly p n l = some f) (g : List Term → Ans) : (if okField p n = false then say (-22) else withPoly p n l g) = g f := by
  rw [h, if_neg (by decide), withPoly, hr]
end Nz
namespace Nz
open Kzt1
/-! ### what a list of terms comes to, whatever number each row of powers stands for -/
def S (f : List Term) (v : List Nat → Nat) : Nat := (f.map fun t => t.c * v t.e).sum
theorem S_nil (v : List Nat → Nat) : S [] v = 0 := rfl
theorem S_cons (t : Term) (f : List Term) (v : List Nat → Nat) : S (t :: f) v = t.c * v t.e + S f v := by
  rw [S, List.map_cons, List.sum_cons]
  rfl
theorem S_app (f g : List Term) (v : List Nat → Nat) : S (f ++ g) v = S f v + S g v := by
  rw [S, List.map_append, List.sum_append]
  rfl
/-- the same modulo p -/
def Eqm (p a b : Nat) : Prop := a % p = b % p
theorem Eqm.rfl' {p a : Nat} : Eqm p a a := rfl
theorem Eqm.symm {p a b : Nat} (h : Eqm p a b) : Eqm p b a := Eq.symm h
theorem Eqm.trans {p a b c : Nat} (h : Eqm p a b) (k : Eqm p b c) : Eqm p a c := Eq.trans h k
theorem Eqm.add {p a b c d : Nat} (h : Eqm p a b) (k : Eqm p c d) : Eqm p (a + c) (b + d) := by
  unfold Eqm at *
  rw [Nat.add_mod, h, k, ← Nat.add_mod]
theorem Eqm.mul {p a b c d : Nat} (h : Eqm p a b) (k : Eqm p c d) : Eqm p (a * c) (b * d) := by
  unfold Eqm at *
  rw [Nat.mul_mod, h, k, ← Nat.mul_mod]
theorem Eqm.mod (p a : Nat) : Eqm p (a % p) a := Nat.mod_mod a p
theorem Eqm.of_eq {p a b : Nat} (h : a = b) : Eqm p a b := by rw [h]; rfl
theorem Eqm.lt {p a b : Nat} (h : Eqm p a b) (ha : a < p) (hb : b < p) : a = b := by
  unfold Eqm at h
  rwa [Nat.mod_eq_of_lt ha, Nat.mod_eq_of_lt hb] at h
theorem Eqm.zero {p a : Nat} (h : a % p = 0) : Eqm p a 0 := by
  unfold Eqm
  rw [h, Nat.zero_mod]
theorem Eqm.cancel {p a b c : Nat} (h : Eqm p (a + c) (b + c)) : Eqm p a b := by
  unfold Eqm at *
  rcases Nat.eq_zero_or_pos p with hp | hp
  · subst hp
    simp only [Nat.mod_zero] at *
    omega
  · have h1 : Eqm p (a + c + (p - c % p)) (b + c + (p - c % p)) := Eqm.add h rfl
    have h2 : ∀ x, Eqm p (x + c + (p - c % p)) x := fun x => by
      have hc := Nat.mod_lt c hp
      have e : x + c + (p - c % p) = x + p * (c / p + 1) := by
        have := Nat.div_add_mod c p
        rw [Nat.mul_add, Nat.mul_one]
        omega
      unfold Eqm
      rw [e, Nat.add_mul_mod_self_left]
    exact (h2 a).symm.trans (h1.trans (h2 b))
theorem S_put {p : Nat} (v : List Nat → Nat) {t : Term} : ∀ l : List Term, Eqm p (S (put p t l) v) (t.c * v t.e + S l v)
  | [] => by
    unfold put
    split
    · rename_i h
      rw [S_nil]
      have e : Eqm p (t.c * v t.e) 0 := ((Eqm.zero h).mul (Eqm.rfl' (a := v t.e))).trans (Eqm.of_eq (Nat.zero_mul _))
      exact (e.add (Eqm.rfl' (a := 0))).symm
    · rw [S_cons, S_nil]
      exact ((Eqm.mod p t.c).mul Eqm.rfl').add Eqm.rfl'
  | u :: l => by
    unfold put
    split
    · rename_i he
      have e1 : Eqm p ((t.c + u.c) * v u.e + S l v) (t.c * v t.e + S (u :: l) v) := Eqm.of_eq (by
        rw [S_cons, he, Nat.add_mul, Nat.add_assoc])
      split
      · rename_i h
        have e : Eqm p ((t.c + u.c) * v u.e) 0 := ((Eqm.zero h).mul (Eqm.rfl' (a := v u.e))).trans (Eqm.of_eq (Nat.zero_mul _))
        exact ((Eqm.of_eq (Nat.zero_add (S l v)).symm).trans (e.symm.add Eqm.rfl')).trans e1
      · rw [S_cons]
        exact (((Eqm.mod p (t.c + u.c)).mul Eqm.rfl').add Eqm.rfl').trans e1
    · split
      · split
        · rename_i h
          have e : Eqm p (t.c * v t.e) 0 := ((Eqm.zero h).mul (Eqm.rfl' (a := v t.e))).trans (Eqm.of_eq (Nat.zero_mul _))
          exact (Eqm.of_eq (Nat.zero_add _).symm).trans (e.symm.add Eqm.rfl')
        · rw [S_cons]
          exact ((Eqm.mod p t.c).mul Eqm.rfl').add Eqm.rfl'
      · rw [S_cons, S_cons]
        refine (Eqm.rfl'.add (S_put v l)).trans (Eqm.of_eq ?_)
        omega
theorem S_fold {p : Nat} (v : List Nat → Nat) : ∀ f acc : List Term, Eqm p (S (f.foldl (fun a t => put p t a) acc) v) (S f v + S acc v)
  | [], acc => Eqm.of_eq (by rw [S_nil, Nat.zero_add]; rfl)
  | t :: f, acc => by
    rw [List.foldl_cons, S_cons]
    refine (S_fold v f (put p t acc)).trans ((Eqm.rfl'.add (S_put v acc)).trans (Eqm.of_eq ?_))
    omega
theorem S_norm {p : Nat} (v : List Nat → Nat) (f : List Term) : Eqm p (S (norm p f) v) (S f v) := (S_fold v f []).trans (Eqm.of_eq (by rw [S_nil]; rfl))
/-! ### factors -/
theorem put_facs {p : Nat} (hp : 0 < p) {t : Term} : ∀ {l : List Term}, Facs p l → Facs p (put p t l)
  | [], _ => by
    unfold put
    split
    · exact fun u h => by cases h
    · intro u h
      rw [List.mem_singleton.mp h]
      exact ⟨Nat.pos_of_ne_zero (by assumption), Nat.mod_lt _ hp⟩
  | v :: l, h => by
    have hl : Facs p l := fun u hu => h u (List.mem_cons_of_mem _ hu)
    have hv := h v (List.mem_cons_self ..)
    unfold put
    split
    · split
      · exact hl
      · intro u hu
        rcases List.mem_cons.mp hu with rfl | hu
        · exact ⟨Nat.pos_of_ne_zero (by assumption), Nat.mod_lt _ hp⟩
        · exact hl u hu
    · split
      · split
        · exact h
        · intro u hu
          rcases List.mem_cons.mp hu with rfl | hu
          · exact ⟨Nat.pos_of_ne_zero (by assumption), Nat.mod_lt _ hp⟩
          · exact h u hu
      · intro u hu
        rcases List.mem_cons.mp hu with rfl | hu
        · exact hv
        · exact put_facs hp hl u hu
theorem fold_facs {p : Nat} (hp : 0 < p) : ∀ (f acc : List Term), Facs p acc → Facs p (f.foldl (fun a t => put p t a) acc)
  | [], _, h => h
  | t :: f, acc, h => fold_facs hp f _ (put_facs hp h)
theorem norm_facs {p : Nat} (hp : 0 < p) (f : List Term) : Facs p (norm p f) := fold_facs hp f [] fun _ h => by cases h
theorem fold_mem {p : Nat} : ∀ (f acc : List Term) (u : Term), u ∈ f.foldl (fun a t => put p t a) acc → (∃ v ∈ f, u.e = v.e) ∨ ∃ v ∈ acc, u.e = v.e
  | [], acc, u, h => .inr ⟨u, h, rfl⟩
  | t :: f, acc, u, h => by
    rcases fold_mem f (put p t acc) u h with ⟨v, hv, e⟩ | ⟨v, hv, e⟩
    · exact .inl ⟨v, List.mem_cons_of_mem _ hv, e⟩
    · rcases put_mem hv with q | ⟨w, hw, q⟩
      · exact .inl ⟨t, List.mem_cons_self .., e.trans q⟩
      · exact .inr ⟨w, hw, e.trans q⟩
theorem norm_mem {p : Nat} {f : List Term} {u : Term} (h : u ∈ norm p f) : ∃ v ∈ f, u.e = v.e := by
  rcases fold_mem f [] u h with q | ⟨v, hv, _⟩
  · exact q
  · cases hv
/-! ### a polynomial is known by its factors -/
def one (e : List Nat) : List Nat → Nat := fun x => if x = e then 1 else 0
theorem S_none {e : List Nat} : ∀ {f : List Term}, (∀ t ∈ f, t.e ≠ e) → S f (one e) = 0
  | [], _ => rfl
  | t :: f, h => by
    rw [S_cons, one, if_neg (h t (List.mem_cons_self ..)), Nat.mul_zero, Nat.zero_add]
    exact S_none fun u hu => h u (List.mem_cons_of_mem _ hu)
theorem S_head {t : Term} {f : List Term} (h : Srt (t :: f)) : S (t :: f) (one t.e) = t.c := by
  rw [S_cons, one, if_pos rfl, Nat.mul_one, show S f (one t.e) = 0 from S_none fun u hu e => bef_ne ((List.pairwise_cons.mp h).1 u hu) e.symm]
  rfl
theorem srt_tail {t : Term} {f : List Term} (h : Srt (t :: f)) : Srt f := (List.pairwise_cons.mp h).2
/-- a term ahead of all others is none of them -/
theorem S_ahead {e : List Nat} {u : Term} {g : List Term} (hs : Srt (u :: g)) (hb : before e u.e = true) : S (u :: g) (one e) = 0 := S_none fun w hw z => by
  rcases List.mem_cons.mp hw with rfl | hw
  · rw [z, bef_irr] at hb
    cases hb
  · have := bef_trans hb ((List.pairwise_cons.mp hs).1 w hw)
    rw [z, bef_irr] at this
    cases this
theorem uniq {p n : Nat} : ∀ {a b : List Term}, Srt a → Srt b → Facs p a → Facs p b → Lens n a → Lens n b → (∀ e, Eqm p (S a (one e)) (S b (one e))) → a = b
  | [], [], _, _, _, _, _, _, _ => rfl
  | [], u :: b, _, hb, _, fb, _, _, h => by
    have h1 := h u.e
    rw [S_head hb, S_nil] at h1
    have h2 := fb u (List.mem_cons_self ..)
    have := h1.symm.lt h2.2 (by omega)
    omega
  | t :: a, [], ha, _, fa, _, _, _, h => by
    have h1 := h t.e
    rw [S_head ha, S_nil] at h1
    have h2 := fa t (List.mem_cons_self ..)
    have := h1.lt h2.2 (by omega)
    omega
  | t :: a, u :: b, ha, hb, fa, fb, la, lb, h => by
    have ht := fa t (List.mem_cons_self ..)
    have hu := fb u (List.mem_cons_self ..)
    by_cases e : t.e = u.e
    · have h1 := h t.e
      rw [S_head ha, e, S_head hb] at h1
      have hc := h1.lt ht.2 hu.2
      have htu : t = u := by
        cases t
        cases u
        simp only at e hc
        rw [e, hc]
      subst htu
      have hr : a = b := uniq (srt_tail ha) (srt_tail hb) (fun w hw => fa w (List.mem_cons_of_mem _ hw)) (fun w hw => fb w (List.mem_cons_of_mem _ hw)) (fun w hw => la w (List.mem_cons_of_mem _ hw)) (fun w hw => lb w (List.mem_cons_of_mem _ hw)) fun e => by
        have := h e
        rw [S_cons, S_cons, Nat.add_comm, Nat.add_comm (t.c * one e t.e)] at this
        exact this.cancel
      rw [hr]
    · exfalso
      cases hb1 : before t.e u.e with
      | true =>
        have h1 := h t.e
        rw [S_head ha, S_ahead hb hb1] at h1
        have := h1.lt ht.2 (by omega)
        omega
      | false =>
        have hb2 : before u.e t.e = true := bef_tri (by rw [la t (List.mem_cons_self ..), lb u (List.mem_cons_self ..)]) e hb1
        have h1 := h u.e
        rw [S_head hb, S_ahead ha hb2] at h1
        have := h1.symm.lt hu.2 (by omega)
        omega
/-- norm, known by what it is -/
theorem norm_is {p n : Nat} {f g : List Term} (hp : 0 < p) (hf : Lens n f) (hs : Srt g) (hg : Facs p g) (hl : Lens n g) (h : ∀ e, Eqm p (S g (one e)) (S f (one e))) : norm p f = g :=
  uniq (norm_srt hf) hs (norm_facs hp f) hg (norm_lens hf) hl fun e => (S_norm (one e) f).trans (h e).symm
/-- two lists of terms that come to the same have one norm -/
theorem norm_congr {p n : Nat} {f g : List Term} (hp : 0 < p) (hf : Lens n f) (hg : Lens n g) (h : ∀ e, Eqm p (S f (one e)) (S g (one e))) : norm p f = norm p g :=
  norm_is hp hf (norm_srt hg) (norm_facs hp g) (norm_lens hg) fun e => (S_norm (one e) g).trans (h e).symm
/-! ### values -/
/-- what a row of powers is at a point -/
def mv (p : Nat) (x e : List Nat) : Nat := (e.zip x).foldl (fun v y => v * powMod p y.2 y.1 % p) 1
theorem fold_mul {p : Nat} : ∀ (l : List (Nat × Nat)) (c : Nat), Eqm p (l.foldl (fun v y => v * powMod p y.2 y.1 % p) c) (c * l.foldl (fun v y => v * powMod p y.2 y.1 % p) 1)
  | [], c => Eqm.of_eq (Nat.mul_one c).symm
  | y :: l, c => by
    rw [List.foldl_cons, List.foldl_cons]
    have h1 := fold_mul (p := p) l (c * powMod p y.2 y.1 % p)
    have h2 := fold_mul (p := p) l (1 * powMod p y.2 y.1 % p)
    refine h1.trans (Eqm.trans ?_ (Eqm.mul Eqm.rfl' h2.symm))
    refine Eqm.trans (((Eqm.mod p _).mul Eqm.rfl')) ?_
    refine Eqm.trans (Eqm.of_eq ?_) (Eqm.mul Eqm.rfl' ((Eqm.mod p (1 * powMod p y.2 y.1)).mul Eqm.rfl').symm)
    rw [Nat.one_mul, Nat.mul_assoc]
theorem fold_sum : ∀ (l : List Nat) (a : Nat), l.foldl (· + ·) a = a + l.sum
  | [], a => by simp
  | x :: l, a => by
    rw [List.foldl_cons, fold_sum l, List.sum_cons]
    omega
theorem value_S {p : Nat} (f : List Term) (x : List Nat) : Eqm p (Kzt1.value p f x) (S f (mv p x)) := by
  refine (Eqm.mod p _).trans ?_
  rw [fold_sum, Nat.zero_add, S]
  induction f with
  | nil => rfl
  | cons t f ih =>
    rw [List.map_cons, List.map_cons, List.sum_cons, List.sum_cons]
    exact (fold_mul _ t.c).add ih
theorem value_lt {p : Nat} (hp : 0 < p) (f : List Term) (x : List Nat) : Kzt1.value p f x < p := Nat.mod_lt _ hp
theorem value_zero {p : Nat} {f : List Term} {x : List Nat} : Kzt1.value p f x = 0 ↔ Eqm p (S f (mv p x)) 0 := by
  constructor
  · intro h
    exact (value_S f x).symm.trans (Eqm.of_eq h)
  · intro h
    have h1 : Kzt1.value p f x % p = 0 % p := (value_S f x).trans h
    rw [Kzt1.value, Nat.mod_mod, Nat.zero_mod] at h1
    exact h1
theorem value_congr {p : Nat} {f g : List Term} (x : List Nat) (h : Eqm p (S f (mv p x)) (S g (mv p x))) : Kzt1.value p f x = Kzt1.value p g x := by
  have h1 : Kzt1.value p f x % p = Kzt1.value p g x % p := (value_S f x).trans (h.trans (value_S g x).symm)
  rw [Kzt1.value, Kzt1.value, Nat.mod_mod, Nat.mod_mod] at h1
  exact h1
end Nz
namespace Nz
open Kzt1
/-! ### powers lowered -/
theorem lowered_lt {p x : Nat} (h : x < p) : lowered p x = x := if_pos h
theorem lowered_step {p x : Nat} (hp : 1 < p) (h : p ≤ x) : lowered p (x - (p - 1)) = lowered p x := by
  have e : x - 1 = (x - p) + (p - 1) := by omega
  unfold lowered
  rw [if_neg (show ¬ x < p by omega), e, Nat.add_mod_right]
  by_cases c : x - (p - 1) < p
  · rw [if_pos c, Nat.mod_eq_of_lt (by omega)]
    omega
  · rw [if_neg c, show x - (p - 1) - 1 = x - p by omega]
theorem lowered_small {p x : Nat} (hp : 1 < p) : lowered p x < p := by
  unfold lowered
  by_cases c : x < p
  · rw [if_pos c]
    exact c
  · rw [if_neg c]
    have := Nat.mod_lt (x - 1) (show 0 < p - 1 by omega)
    omega
end Nz
namespace Nz
open Kzt1
/-! ### factors kept by rows of powers: what a dict of them holds -/
abbrev Fd := List (List Nat × Nat)
def getF (d : Fd) (e : List Nat) : Option Nat := (d.find? fun x => decide (x.1 = e)).map (·.2)
def putF (d : Fd) (e : List Nat) (c : Nat) : Fd := if (d.any fun x => decide (x.1 = e)) = true then d.map (fun x => if x.1 = e then (x.1, c) else x) else d ++ [(e, c)]
def addF (p : Nat) (d : Fd) (t : List Nat) : Fd := putF d t.tail (((getF d t.tail).getD 0 + t.headD 0) % p)
def fac (p : Nat) (T : List (List Nat)) : Fd := T.foldl (addF p) []
def tf (x : List Nat × Nat) : Term := ⟨x.2, x.1⟩
def Keys1 (d : Fd) : Prop := (d.map (·.1)).Nodup
theorem fac_snoc (p : Nat) (T : List (List Nat)) (t : List Nat) : fac p (T ++ [t]) = addF p (fac p T) t := by
  rw [fac, List.foldl_append]
  rfl
theorem any_iff {d : Fd} {e : List Nat} : (d.any fun x => decide (x.1 = e)) = true ↔ e ∈ d.map (·.1) := by
  rw [List.any_eq_true, List.mem_map]
  constructor
  · rintro ⟨x, hx, h⟩
    exact ⟨x, hx, of_decide_eq_true h⟩
  · rintro ⟨x, hx, h⟩
    exact ⟨x, hx, decide_eq_true h⟩
theorem getF_cons (x : List Nat × Nat) (d : Fd) (e : List Nat) : getF (x :: d) e = if x.1 = e then some x.2 else getF d e := by
  rw [getF, List.find?_cons]
  by_cases h : x.1 = e
  · rw [decide_eq_true h, if_pos h]
    rfl
  · rw [decide_eq_false h, if_neg h]
    rfl
theorem getF_none {e : List Nat} : ∀ {d : Fd}, e ∉ d.map (·.1) → getF d e = none
  | [], _ => rfl
  | x :: d, h => by
    rw [List.map_cons, List.mem_cons, not_or] at h
    rw [getF_cons, if_neg (fun z => h.1 z.symm)]
    exact getF_none h.2
theorem getF_app (e : List Nat) (c : Nat) : ∀ (d : Fd) (j : List Nat), e ∉ d.map (·.1) → getF (d ++ [(e, c)]) j = if j = e then some c else getF d j
  | [], j, _ => by
    rw [List.nil_append, getF_cons]
    by_cases h : j = e
    · rw [if_pos h, if_pos h.symm]
    · rw [if_neg h, if_neg (fun z => h z.symm)]
  | x :: d, j, h => by
    rw [List.map_cons, List.mem_cons, not_or] at h
    rw [List.cons_append, getF_cons, getF_cons, getF_app e c d j h.2]
    by_cases hx : x.1 = j
    · rw [if_pos hx, if_pos hx, if_neg (fun z : j = e => h.1 (z.symm.trans hx.symm))]
    · rw [if_neg hx, if_neg hx]
theorem getF_set (e : List Nat) (c : Nat) : ∀ (d : Fd) (j : List Nat), e ∈ d.map (·.1) → getF (d.map fun x => if x.1 = e then (x.1, c) else x) j = if j = e then some c else getF d j
  | [], _, h => by cases h
  | x :: d, j, h => by
    have hother : ∀ d : Fd, j ≠ e → getF (d.map fun x => if x.1 = e then (x.1, c) else x) j = getF d j := fun d hj => by
      induction d with
      | nil => rfl
      | cons y d ih =>
        rw [List.map_cons, getF_cons, getF_cons, ih]
        by_cases hy : y.1 = e
        · have hyj : y.1 ≠ j := fun z => hj (z.symm.trans hy)
          rw [if_pos hy, if_neg hyj, if_neg hyj]
        · rw [if_neg hy]
    by_cases hj : j = e
    · subst hj
      rw [if_pos rfl, List.map_cons, getF_cons]
      by_cases hx : x.1 = j
      · rw [if_pos hx]
        exact if_pos hx
      · rw [if_neg hx, if_neg hx]
        rw [List.map_cons, List.mem_cons] at h
        rw [getF_set j c d j (h.resolve_left fun z => hx z.symm), if_pos rfl]
    · rw [if_neg hj]
      exact hother (x :: d) hj
theorem getF_put (d : Fd) (e j : List Nat) (c : Nat) : getF (putF d e c) j = if j = e then some c else getF d j := by
  unfold putF
  by_cases h : (d.any fun x => decide (x.1 = e)) = true
  · rw [if_pos h]
    exact getF_set e c d j (any_iff.mp h)
  · rw [if_neg h]
    exact getF_app e c d j fun z => h (any_iff.mpr z)
theorem set_keys (e : List Nat) (c : Nat) (d : Fd) : (d.map fun x => if x.1 = e then (x.1, c) else x).map (·.1) = d.map (·.1) := by
  rw [List.map_map]
  apply List.map_congr_left
  intro x _
  show (if x.1 = e then (x.1, c) else x).1 = x.1
  split <;> rfl
theorem put_keys {d : Fd} {e : List Nat} {c : Nat} {j : List Nat} (h : j ∈ (putF d e c).map (·.1)) : j = e ∨ j ∈ d.map (·.1) := by
  unfold putF at h
  split at h
  · rw [set_keys] at h
    exact .inr h
  · rw [List.map_append, List.mem_append] at h
    rcases h with h | h
    · exact .inr h
    · exact .inl (List.mem_singleton.mp h)
theorem put_nodup {d : Fd} (e : List Nat) (c : Nat) (h : Keys1 d) : Keys1 (putF d e c) := by
  unfold Keys1 putF at *
  split
  · rw [set_keys]
    exact h
  · rename_i hn
    rw [List.map_append, List.nodup_append]
    refine ⟨h, List.nodup_cons.mpr ⟨by simp, List.nodup_nil⟩, fun a ha b hb => ?_⟩
    have eb : b = e := List.mem_singleton.mp hb
    subst eb
    exact fun z => hn (any_iff.mpr (z ▸ ha))
theorem put_small {d : Fd} {e : List Nat} {c p : Nat} (hc : c < p) (h : ∀ x ∈ d, x.2 < p) : ∀ x ∈ putF d e c, x.2 < p := by
  unfold putF
  split
  · intro x hx
    obtain ⟨y, hy, rfl⟩ := List.mem_map.mp hx
    split
    · exact hc
    · exact h y hy
  · intro x hx
    rcases List.mem_append.mp hx with hx | hx
    · exact h x hx
    · rw [List.mem_singleton.mp hx]
      exact hc
theorem put_len (d : Fd) (e : List Nat) (c : Nat) : (putF d e c).length ≤ d.length + 1 := by
  unfold putF
  split
  · rw [List.length_map]
    omega
  · rw [List.length_append]
    exact Nat.le_refl _
/-- what the dict comes to at a row of powers is what stands there -/
theorem S_get (e : List Nat) : ∀ {d : Fd}, Keys1 d → S (d.map tf) (one e) = (getF d e).getD 0
  | [], _ => rfl
  | x :: d, h => by
    have h1 := List.nodup_cons.mp (show (x.1 :: d.map (·.1)).Nodup from h)
    rw [List.map_cons, S_cons, getF_cons]
    show x.2 * one e x.1 + _ = _
    by_cases hx : x.1 = e
    · rw [if_pos hx, one, if_pos hx, Nat.mul_one, show S (d.map tf) (one e) = 0 from ?_]
      · rfl
      · refine S_none fun t ht z => h1.1 ?_
        obtain ⟨y, hy, rfl⟩ := List.mem_map.mp ht
        rw [hx, ← show y.1 = e from z]
        exact List.mem_map_of_mem hy
    · rw [if_neg hx, one, if_neg hx, Nat.mul_zero, Nat.zero_add]
      exact S_get e h1.2
theorem add_nodup {p : Nat} {d : Fd} (t : List Nat) (h : Keys1 d) : Keys1 (addF p d t) := put_nodup _ _ h
theorem S_add {p : Nat} {d : Fd} (t : List Nat) (e : List Nat) (h : Keys1 d) : Eqm p (S ((addF p d t).map tf) (one e)) ((tm t).c * one e (tm t).e + S (d.map tf) (one e)) := by
  rw [S_get e (add_nodup t h), S_get e h]
  show Eqm p ((getF (putF d t.tail _) e).getD 0) (t.headD 0 * one e t.tail + _)
  rw [getF_put, one]
  by_cases hx : e = t.tail
  · subst hx
    rw [if_pos rfl, if_pos rfl, Nat.mul_one, Nat.add_comm]
    exact Eqm.mod p _
  · rw [if_neg hx, if_neg (fun z => hx z.symm), Nat.mul_zero, Nat.zero_add]
    exact Eqm.rfl'
theorem fac_fold {p : Nat} (e : List Nat) : ∀ (T : List (List Nat)) (d : Fd), Keys1 d → Keys1 (T.foldl (addF p) d) ∧ Eqm p (S ((T.foldl (addF p) d).map tf) (one e)) (S (T.map tm) (one e) + S (d.map tf) (one e))
  | [], d, h => ⟨h, Eqm.of_eq (by rw [List.map_nil, S_nil, Nat.zero_add]; rfl)⟩
  | t :: T, d, h => by
    obtain ⟨h1, h2⟩ := fac_fold e T (addF p d t) (add_nodup t h)
    refine ⟨h1, h2.trans ((Eqm.add Eqm.rfl' (S_add t e h)).trans (Eqm.of_eq ?_))⟩
    rw [List.map_cons, S_cons]
    omega
theorem fac_nodup (p : Nat) (T : List (List Nat)) : Keys1 (fac p T) := (fac_fold [] T [] List.nodup_nil).1
theorem fac_S (p : Nat) (T : List (List Nat)) (e : List Nat) : Eqm p (S ((fac p T).map tf) (one e)) (S (T.map tm) (one e)) := (fac_fold e T [] List.nodup_nil).2
theorem fac_small {p : Nat} (hp : 0 < p) (T : List (List Nat)) : ∀ x ∈ fac p T, x.2 < p := by
  have h : ∀ (T : List (List Nat)) (d : Fd), (∀ x ∈ d, x.2 < p) → ∀ x ∈ T.foldl (addF p) d, x.2 < p := fun T => by
    induction T with
    | nil => exact fun d h => h
    | cons t T ih => exact fun d h => ih _ (put_small (Nat.mod_lt _ hp) h)
  exact h T [] fun x hx => by cases hx
theorem fac_keys {p n : Nat} {T : List (List Nat)} (hR : Rows n T) : ∀ x ∈ fac p T, x.1.length = n := by
  have h : ∀ (T : List (List Nat)) (d : Fd), Rows n T → (∀ j ∈ d.map (·.1), j.length = n) → ∀ j ∈ (T.foldl (addF p) d).map (·.1), j.length = n := fun T => by
    induction T with
    | nil => exact fun d _ h => h
    | cons t T ih =>
      intro d hT h
      refine ih _ hT.tail fun j hj => ?_
      rcases put_keys hj with rfl | hj
      · rw [List.length_tail, hT.head]
        rfl
      · exact h j hj
  exact fun x hx => h T [] hR (fun j hj => by cases hj) x.1 (List.mem_map_of_mem hx)
theorem fac_len (p : Nat) (T : List (List Nat)) : (fac p T).length ≤ T.length := by
  have h : ∀ (T : List (List Nat)) (d : Fd), (T.foldl (addF p) d).length ≤ d.length + T.length := fun T => by
    induction T with
    | nil => exact fun d => Nat.le_refl _
    | cons t T ih =>
      intro d
      have h1 := ih (addF p d t)
      have h2 : (addF p d t).length ≤ d.length + 1 := put_len d t.tail (((getF d t.tail).getD 0 + t.headD 0) % p)
      rw [List.length_cons]
      show (T.foldl (addF p) (addF p d t)).length ≤ _
      omega
  have := h T []
  rw [List.length_nil, Nat.zero_add] at this
  exact this
/-! ### those with factor 0 left out, in their order -/
def kept (d : Fd) : List (List Nat) := (d.filter fun x => x.2 != 0).map fun x => x.2 :: x.1
theorem S_kept (e : List Nat) : ∀ d : Fd, S ((kept d).map tm) (one e) = S (d.map tf) (one e)
  | [] => rfl
  | x :: d => by
    rw [kept, List.filter_cons, List.map_cons, S_cons]
    by_cases hx : x.2 = 0
    · rw [if_neg (by simp [hx])]
      show S ((kept d).map tm) (one e) = x.2 * one e x.1 + _
      rw [hx, Nat.zero_mul, Nat.zero_add]
      exact S_kept e d
    · rw [if_pos (by simp [hx]), List.map_cons, List.map_cons, S_cons]
      show x.2 * one e x.1 + S ((kept d).map tm) (one e) = x.2 * one e x.1 + _
      rw [S_kept e d]
theorem S_perm {f g : List Term} (v : List Nat → Nat) (h : f.Perm g) : S f v = S g v := (h.map _).sum_nat
theorem kept_mem {d : Fd} {t : List Nat} (h : t ∈ kept d) : ∃ x ∈ d, x.2 ≠ 0 ∧ t = x.2 :: x.1 := by
  obtain ⟨x, hx, rfl⟩ := List.mem_map.mp h
  obtain ⟨h1, h2⟩ := List.mem_filter.mp hx
  exact ⟨x, h1, by simpa using h2, rfl⟩
theorem kept_tails {d : Fd} (h : Keys1 d) : ((kept d).map List.tail).Nodup := by
  have e : (kept d).map List.tail = (d.filter fun x => x.2 != 0).map (·.1) := by
    rw [kept, List.map_map]
    rfl
  rw [e]
  exact List.Nodup.sublist (List.Sublist.map _ List.filter_sublist) h
/-- like terms as one, in their order: just what norm is -/
theorem joined_is {p n : Nat} {T G : List (List Nat)} (hp : 0 < p) (hR : Rows n T) (hG : G.Perm (kept (fac p T))) (hs : G.Pairwise fun a b => before b.tail a.tail = false) : G.map tm = norm p (T.map tm) ∧ Rows n G := by
  have hm : ∀ t ∈ G, ∃ x ∈ fac p T, x.2 ≠ 0 ∧ t = x.2 :: x.1 := fun t ht => kept_mem (hG.mem_iff.mp ht)
  have rG : Rows n G := fun t ht => by
    obtain ⟨x, hx, _, rfl⟩ := hm t ht
    rw [List.length_cons, fac_keys hR x hx]
  have fG : Facs p (G.map tm) := fun u hu => by
    obtain ⟨t, ht, rfl⟩ := List.mem_map.mp hu
    obtain ⟨x, hx, h0, rfl⟩ := hm t ht
    exact ⟨Nat.pos_of_ne_zero h0, fac_small hp T x hx⟩
  have nd : (G.map List.tail).Nodup := ((hG.map List.tail).nodup_iff).mpr (kept_tails (fac_nodup p T))
  have hd : G.Pairwise fun a b => a.tail ≠ b.tail := List.pairwise_map.mp nd
  have sG : Srt (G.map tm) := by
    refine List.pairwise_map.mpr ?_
    have hall := hs.and hd
    refine List.Pairwise.imp_of_mem (fun {a b} ha hb h => ?_) hall
    refine bef_tri ?_ (fun z => h.2 z.symm) h.1
    show b.tail.length = a.tail.length
    rw [List.length_tail, List.length_tail, rG a ha, rG b hb]
  refine ⟨(norm_is hp (rows_lens hR) sG fG (rows_lens rG) fun e => ?_).symm, rG⟩
  rw [S_perm (one e) (hG.map tm), S_kept]
  exact fac_S p T e
/-- the row of terms -/
theorem written_rows {n : Nat} : ∀ {G : List (List Nat)}, Rows n G → written (G.map tm) = G.flatten
  | [], _ => rfl
  | t :: G, h => by
    have ht := h.head
    cases t with
    | nil => simp at ht
    | cons c e =>
      rw [List.map_cons, written, List.flatMap_cons]
      show c :: e ++ written (G.map tm) = _
      rw [written_rows h.tail]
      rfl
end Nz
/-! ### two words that the layer lacks: a list below a list; the values of a row -/
namespace Nz
open PySem PySem.Spec PyProof.Rows L2
def vn (l : List Nat) : List V := (natI l).map V.int
theorem vn_len (l : List Nat) : (vn l).length = l.length := by
  rw [vn, natI, List.length_map, List.length_map]
theorem vn_get {l : List Nat} {i : Nat} {x : Nat} (h : l[i]? = some x) : (vn l)[i]? = some (V.int (x : Int)) := by
  rw [vn, natI, List.getElem?_map, List.getElem?_map, h]
  rfl
theorem vn_app (l r : List Nat) : vn (l ++ r) = vn l ++ vn r := by
  rw [vn, natI, List.map_append, List.map_append]
  rfl
theorem vn_drop (l : List Nat) (k : Nat) : vn (l.drop k) = (vn l).drop k := by
  rw [vn, natI, List.map_drop, List.map_drop]
  rfl
theorem vn_take (l : List Nat) (k : Nat) : vn (l.take k) = (vn l).take k := by
  rw [vn, natI, List.map_take, List.map_take]
  rfl
theorem vn_inj : ∀ {l r : List Nat}, vn l = vn r → l = r
  | [], [], _ => rfl
  | [], _ :: _, h => by simp [vn, natI] at h
  | _ :: _, [], h => by simp [vn, natI] at h
  | a :: l, b :: r, h => by
    have h1 := List.cons.inj (show V.int (a : Int) :: vn l = V.int (b : Int) :: vn r from h)
    have h2 : (a : Int) = (b : Int) := V.int.inj h1.1
    rw [vn_inj h1.2, Int.ofNat.inj h2]
/-- two rows of numbers, the first difference decides -/
def rowLt : List Nat → List Nat → Bool
  | [], [] => false
  | [], _ :: _ => true
  | _ :: _, [] => false
  | x :: xs, y :: ys => if x = y then rowLt xs ys else decide (x < y)
def dN (l : List Nat) : PyData := .list (l.map fun x : Nat => PyData.int (x : Int))
theorem dpAll_vn {K : PySem.W.Frag} {H : Hp} : ∀ l : List Nat, DpAll K H (vn l) (l.map fun x : Nat => PyData.int (x : Int))
  | [] => .nil
  | x :: l => .cons (.int (x : Int)) (dpAll_vn l)
theorem alike_dN : ∀ l r : List Nat, PySem.W.alikeAll (l.map fun x : Nat => PyData.int (x : Int)) (r.map fun x : Nat => PyData.int (x : Int)) = true
  | [], _ => by rw [List.map_nil, PySem.W.alikeAll]
  | _ :: _, [] => by rw [List.map_nil, List.map_cons, PySem.W.alikeAll]
  | x :: l, y :: r => by
    rw [List.map_cons, List.map_cons, PySem.W.alikeAll, alike_dN l r, PySem.W.alike]
    rfl
theorem lt_dN : ∀ l r : List Nat, PyProof.Rows.lexLt PyProof.Rows.itemOrd (PySem.W.keyToksAll (l.map fun x : Nat => PyData.int (x : Int))) (PySem.W.keyToksAll (r.map fun x : Nat => PyData.int (x : Int))) = rowLt l r
  | [], [] => PyProof.Rows.lex_irrefl _
  | [], y :: r => by
    rw [List.map_nil, List.map_cons, PySem.W.toks_all_cons]
    simp only [PySem.W.keyToksAll]
    rw [PyProof.Rows.lex_diff (O := PyProof.Rows.itemOrd) (by simp)]
    rfl
  | x :: l, [] => by
    rw [List.map_nil, List.map_cons, PySem.W.toks_all_cons]
    simp only [PySem.W.keyToksAll]
    rw [PyProof.Rows.lex_diff (O := PyProof.Rows.itemOrd) (by simp)]
    rfl
  | x :: l, y :: r => by
    rw [List.map_cons, List.map_cons, rowLt]
    have ha : PySem.W.alike (.int (x : Int)) (.int (y : Int)) = true := by rw [PySem.W.alike]
    by_cases h : x = y
    · subst h
      have e : PyData.eqv (.int (x : Int)) (.int (x : Int)) = true := by simp [PyData.eqv]
      rw [if_pos rfl, PySem.W.dataLt_all_yes ha e, lt_dN l r]
    · have e : PyData.eqv (.int (x : Int)) (.int (y : Int)) = false := by
        simp [PyData.eqv]
        omega
      rw [if_neg h, PySem.W.dataLt_all_no ha e, PySem.W.dataLt_int]
      apply decide_eq_decide.mpr
      omega
theorem depth_dN (l : List Nat) : (dN l).depth ≤ 1 := by
  have h : ∀ l : List Nat, PyData.depthAll (l.map fun x : Nat => PyData.int (x : Int)) = 0 := fun l => by
    induction l with
    | nil => rfl
    | cons x l ih =>
      rw [List.map_cons, PyData.depthAll, ih]
      rfl
  rw [dN, PyData.depth, h]
  exact Nat.le_refl _
def rLtN (K : PySem.W.Frag) : R2 := fun x y H Q => ∃ (a b : Addr) (l r : List Nat), x = .ref a ∧ y = .ref b ∧ SqL K H a (vn l) ∧ SqL K H b (vn r) ∧ Q (.bl (rowLt l r)) H
theorem op_ltN {X : Cx} (hu : X.A.units + 64 < cLine) : OpR X (compareOp .Lt) (rLtN X.K) := by
  intro pins s σ H x y v u Q I rx ry h
  obtain ⟨a, b, l, r, rfl, rfl, hl, hr, q⟩ := h
  obtain ⟨as, r1⟩ := Dp.reads I (dN l) (.ref a) v (.lst hl (dpAll_vn l)) rx
  obtain ⟨bs, r2⟩ := Dp.reads I (dN r) (.ref b) u (.lst hr (dpAll_vn r)) ry
  have e : PySem.W.dataLt (dN l) (dN r) = rowLt l r := (PySem.W.dataLt_list _ _).trans (lt_dN l r)
  have hal : PySem.W.alike (dN l) (dN r) = true := by
    rw [dN, dN, PySem.W.alike]
    exact alike_dN l r
  have hd := depth_dN l
  refine PySem.W.rcLt_alike (dN l) (dN r) X.A s v u as bs r1 r2 hal (fun z => nomatch z) (Nat.lt_of_le_of_lt (Nat.add_le_add_left (Nat.le_trans (Nat.min_le_left _ _) (Nat.le_trans hd (by decide : 1 ≤ 64))) _) hu) X.prog X.w X.xe _ ?_
  rw [e]
  exact ⟨.bl _, H, I, rfl, q⟩
/-- the order of terms by rows: the degree ahead -/
theorem rowLt_lex : ∀ (l r : List Nat), l.length = r.length → rowLt l r = Kzt1.lexBefore l r
  | [], [], _ => rfl
  | [], _ :: _, h => by simp at h
  | _ :: _, [], h => by simp at h
  | x :: l, y :: r, h => by
    rw [rowLt, Kzt1.lexBefore, rowLt_lex l r (by simpa using h)]
    by_cases e : x = y
    · subst e
      simp
    · rw [if_neg e]
      simp [e]
theorem rowLt_before {l r : List Nat} (h : l.length = r.length) : rowLt (Kzt1.total l :: l) (Kzt1.total r :: r) = Kzt1.before l r := by
  rw [rowLt, rowLt_lex l r h, Kzt1.before]
  by_cases e : Kzt1.total l = Kzt1.total r
  · rw [if_pos e]
    simp [e]
  · rw [if_neg e]
    simp [e]
/-! ### slices, sums -/
theorem cut_tail (l : List Nat) : cutV (vn l) (some 1) none = vn l.tail := by
  have e1 : HT.sIx (vn l).length 0 (some 1) = min 1 (vn l).length := HT.sIx_nat _ 0 1
  have e2 : l.tail = l.drop 1 := by rw [List.drop_one]
  rw [cutV, e1, HT.sIx_none, e2, vn_drop]
  rcases Nat.eq_zero_or_pos (vn l).length with h | h
  · rw [List.eq_nil_of_length_eq_zero h]
    rfl
  · rw [show min 1 (vn l).length = 1 by omega]
    apply List.take_of_length_le
    rw [List.length_drop]
    exact Nat.le_refl _
theorem cut_piece (l : List Nat) (i j : Nat) (h : i ≤ j) (hj : j ≤ l.length) : cutV (vn l) (some (i : Int)) (some (j : Int)) = vn ((l.drop i).take (j - i)) := by
  rw [cutV, HT.sIx_nat, HT.sIx_nat, vn_len, vn_take, vn_drop, Nat.min_eq_left hj, Nat.min_eq_left (by omega)]
theorem total_cons (x : Nat) (l : List Nat) : Kzt1.total (x :: l) = x + Kzt1.total l := by
  have h : ∀ (l : List Nat) (a b : Nat), l.foldl (· + ·) (a + b) = a + l.foldl (· + ·) b := fun l => by
    induction l with
    | nil => intro a b; rfl
    | cons y l ih =>
      intro a b
      rw [List.foldl_cons, List.foldl_cons, Nat.add_assoc, ih]
  show l.foldl (· + ·) (0 + x) = x + l.foldl (· + ·) 0
  rw [Nat.zero_add]
  exact h l x 0
theorem sum_natI : ∀ l : List Nat, (natI l).sum = ((Kzt1.total l : Nat) : Int)
  | [] => rfl
  | x :: l => by
    show ((x : Int) :: natI l).sum = _
    rw [List.sum_cons, sum_natI l, total_cons]
    omega
/-! ### heaps -/
theorem same_upd {H : Hp} {p : Addr} {o : HO} (h : H p = none) : Same H (upd H p o) := fun b x e => by
  rw [upd_ne (ne_of_none e h)]
  exact e
/-- a list of rows -/
def TAt (K : PySem.W.Frag) (H : Hp) (a : Addr) (T : List (List Nat)) : Prop := ∃ as : List Addr, SqL K H a (as.map V.ref) ∧ as.length = T.length ∧ ∀ (i : Nat) (b : Addr) (t : List Nat), as[i]? = some b → T[i]? = some t → SqL K H b (vn t)
theorem TAt.same {K : PySem.W.Frag} {H H' : Hp} {a : Addr} {T : List (List Nat)} (e : Same H H') (h : TAt K H a T) : TAt K H' a T := by
  obtain ⟨as, h1, h2, h3⟩ := h
  exact ⟨as, e.seq h1, h2, fun i b t hb ht => e.seq (h3 i b t hb ht)⟩
/-! ### lists of rows that stand by themselves -/
def TTr (H : Hp) (a : Addr) (T : List (List Nat)) : Prop := ∃ as : List Addr, H a = some (.lst (as.map V.ref)) ∧ as.length = T.length ∧ ∀ (i : Nat) (b : Addr) (t : List Nat), as[i]? = some b → T[i]? = some t → H b = some (.lst (vn t))
theorem TTr.at_ {K : PySem.W.Frag} {H : Hp} {a : Addr} {T : List (List Nat)} (h : TTr H a T) : TAt K H a T := by
  obtain ⟨as, h1, h2, h3⟩ := h
  exact ⟨as, SqL.of h1, h2, fun i b t hb ht => SqL.of (h3 i b t hb ht)⟩
theorem TTr.same {H H' : Hp} {a : Addr} {T : List (List Nat)} (e : Same H H') (h : TTr H a T) : TTr H' a T := by
  obtain ⟨as, h1, h2, h3⟩ := h
  exact ⟨as, e _ _ h1, h2, fun i b t hb ht => e _ _ (h3 i b t hb ht)⟩
theorem get_ex {α β : Type} {l : List α} {r : List β} {i : Nat} {x : α} (hl : l.length = r.length) (h : l[i]? = some x) : ∃ y, r[i]? = some y := by
  obtain ⟨h1, _⟩ := List.getElem?_eq_some_iff.mp h
  exact ⟨r[i]'(by omega), List.getElem?_eq_getElem (by omega)⟩
theorem map_get {α β : Type} {l : List α} {f : α → β} {i : Nat} {y : β} (h : (l.map f)[i]? = some y) : ∃ x, l[i]? = some x ∧ y = f x := by
  rw [List.getElem?_map] at h
  cases e : l[i]? with
  | none =>
    rw [e] at h
    cases h
  | some x =>
    rw [e] at h
    exact ⟨x, rfl, (Option.some.inj h).symm⟩
/-- one item more -/
theorem take_more {α : Type} {l : List α} {i : Nat} {x : α} (h : l[i]? = some x) : l.take (i + 1) = l.take i ++ [x] := by
  rw [List.take_add_one, h]
  rfl
end Nz
set_option maxHeartbeats 1000000
/-! ### sorted(xs, key=f): f a def of the program that gives lists of ints -/
namespace Nz
open PySem PySem.Spec PyProof.Rows L2
/-- an address that is nobody's: no frame, no cell, no pin, newer than the entry -/
structure Fresh (X : Cx) (pins : List (Addr × Obj)) (b : Addr) : Prop where
  sz : X.s_0.heap.objs.size ≤ b
  loc : b ≠ X.env.locals
  cel : ∀ x c, X.env.cells.lookup x = some c → c ≠ b
  pin : ∀ p ∈ X.pn ++ pins, p.1 ≠ b
  fs : b ∉ X.fs
section
variable {X : Cx} {pins : List (Addr × Obj)} {σ : L2.St} {H : Hp} {s : Shared}
theorem fresh_of {b : Addr} (I : Inv X pins σ H s) (h : s.heap.objs.size ≤ b) : Fresh X pins b := by
  refine ⟨Nat.le_trans I.sz h, fun e => ?_, fun x c e z => ?_, fun p hp z => ?_, I.nofs h⟩
  · have := I.lt
    rw [← e] at this
    exact Nat.lt_irrefl _ (Nat.lt_of_lt_of_le this h)
  · obtain ⟨v, o, ho, _⟩ := I.cell x c e
    rw [z] at ho
    exact Nat.lt_irrefl _ (Nat.lt_of_lt_of_le (Heap.lt_size ho) h)
  · have ho := (I.pin p hp).1
    rw [z] at ho
    exact Nat.lt_irrefl _ (Nat.lt_of_lt_of_le (Heap.lt_size ho) h)
theorem refs_eq : ∀ {as : List Addr} {us : List Value}, Vals (as.map V.ref) us → us = as.map Value.ref
  | [], _, r => by
    cases r
    rfl
  | a :: as, _, r => by
    cases r with
    | cons h t =>
      cases h
      rw [refs_eq t]
      rfl
theorem refs_vals : ∀ as : List Addr, Vals (as.map V.ref) (as.map Value.ref)
  | [] => .nil
  | a :: as => .cons (show RelV (.ref a) (.ref a) from rfl) (refs_vals as)
theorem each_at {α β : Type} {R : α → β → Prop} : ∀ {l : List α} {r : List β}, l.length = r.length → (∀ (i : Nat) (x : α) (y : β), l[i]? = some x → r[i]? = some y → R x y) → PySem.W.EachIs R l r
  | [], [], _, _ => .nil
  | [], _ :: _, h, _ => by simp at h
  | _ :: _, [], h, _ => by simp at h
  | x :: l, y :: r, h, f => .cons (f 0 x y rfl rfl) (each_at (by simpa using h) fun i x y hx hy => f (i + 1) x y hx hy)
theorem each_ref {α : Type} {g : α → Addr} : ∀ {us : List Value} {l : List α}, PySem.W.EachIs (fun u x => u = Value.ref (g x)) us l → us = (l.map g).map Value.ref
  | _, _, .nil => rfl
  | _, _, .cons h t => by
    rw [h, each_ref t]
    rfl
/-- a heap without what stands at b -/
theorem without_one (h : Heap) (b : Addr) : ∃ g : Heap, g.get? b = none ∧ ∀ c, c ≠ b → g.get? c = h.get? c := by
  refine ⟨h.update b fun o => { o with data := .freed }, ?_, (Heap.SameBut.update h b _).2⟩
  cases e : (h.update b fun o => { o with data := .freed }).get? b with
  | none => rfl
  | some o =>
    exfalso
    have hlt := Heap.lt_size e
    rw [Heap.size_update] at hlt
    unfold Heap.get? at e
    simp [Heap.update, hlt] at e
    rw [Array.getElem_modify_self] at e
    cases e
/-- the list at a sorted, the one at kS let go -/
theorem inv_sorted {a kS : Addr} {oa : Obj} {ks : List V} {ys : List Addr} {h3 : Heap} {tk c : Nat} (I : Inv X ((a, oa) :: pins) σ H s) (fa : Fresh X pins a) (fk : Fresh X pins kS) (hne : kS ≠ a) (hk : H kS = some (.lst ks))
    (kp : ∀ b o, b ≠ a → b ≠ kS → s.heap.get? b = some o → h3.get? b = some o) (ha : h3.get? a = some (seqObj "list" (ys.map Value.ref).toArray c)) (hz : ys.length ≤ sizeLine) :
    Inv X pins σ (fun b => if b = kS then none else upd H a (.lst (ys.map V.ref)) b) { s with heap := h3, toks := tk } := by
  have pa := I.pin (a, oa) (List.mem_append_right _ (List.mem_cons_self ..))
  have I0 : Inv X pins σ H s := I.pins_of fun p hp => I.pin p (List.mem_append_right _ (List.mem_cons_of_mem _ hp))
  have hHa : H a = none := pa.2.1
  have tr : ∀ b o, H b = some o → b ≠ kS → (if b = kS then none else upd H a (.lst (ys.map V.ref)) b) = some o := fun b o e n => by
    rw [if_neg n, upd_ne (ne_of_none e hHa)]
    exact e
  refine I0.step (g' := s.gens) (d' := s.drawn) (ch := [kS, a]) (fun b hb => ?_) (fun b o _ _ hc e _ => ?_) (fun b o _ _ hc e _ => ?_) (fun b o hc e n => ?_) (fun b o hc e => ?_) (fun b xs e => ?_) (fun b o u e => ?_) (fun b ps e => ?_) (fun m hm => ?_) (fun b u e => ?_) I0.bare
  · rcases List.mem_cons.mp hb with rfl | hb
    · exact ⟨.inr fk.sz, fk.loc, fk.cel, fk.pin⟩
    · rw [List.mem_singleton.mp hb]
      exact ⟨.inr fa.sz, fa.loc, fa.cel, fa.pin⟩
  · exact kp b o (fun z => hc (by simp [z])) (fun z => hc (by simp [z])) e
  · exact ⟨o.slots, kp b o (fun z => hc (by simp [z])) (fun z => hc (by simp [z])) e⟩
  · have n1 : b ≠ kS := fun z => hc (by simp [z])
    have n2 : b ≠ a := fun z => hc (by simp [z])
    rw [if_neg n1, upd_ne n2]
    exact n
  · exact ⟨o, kp b o (fun z => hc (by simp [z])) (fun z => hc (by simp [z])) e⟩
  · exact tr b _ e fun z => by
      rw [z, hk] at e
      cases e
  · exact tr b _ e fun z => by
      rw [z, hk] at e
      cases e
  · refine ⟨#[], ?_⟩
    rw [Array.append_empty]
    exact tr b _ e fun z => by
      rw [z, hk] at e
      cases e
  · obtain ⟨o, es, ep, ho, r⟩ := hm
    exact ⟨o, es, ep, kp _ o (Ne.symm fa.loc) (Ne.symm fk.loc) ho, r⟩
  · by_cases hb : b = kS
    · rw [if_pos hb] at e
      cases e
    · rw [if_neg hb] at e
      by_cases hba : b = a
      · subst hba
        rw [upd_same] at e
        cases e
        exact ⟨by rw [List.length_map]; exact hz, ys.map Value.ref, c, refs_vals ys, ha⟩
      · rw [upd_ne hba] at e
        refine (I0.hok b u e).stay (fun d v hd q => kp d v (fun z => ?_) (fun z => ?_) q) (fun d q => tr d _ q fun z => ?_) fun d xs q => tr d _ q fun z => ?_
        · subst z
          rcases hd with z | z
          · exact hba z.symm
          · rw [hHa] at z
            cases z
        · subst z
          rcases hd with z | z
          · exact hb z.symm
          · rw [hk] at z
            cases z
        · rw [z, hk] at q
          cases q
        · rw [z, hk] at q
          cases q
end
end Nz
set_option maxHeartbeats 1000000
namespace Nz
open PySem PySem.Spec PyProof.Rows L2
section
variable {X : Cx} {pins : List (Addr × Obj)} {σ : L2.St} {H : Hp} {s : Shared}
/-- the order of items by their keys -/
def leB (kf : List Nat → List Nat) : Addr × List Nat → Addr × List Nat → Bool := PySem.W.dataLe false fun x => dN (kf x.2)
theorem not_ints {os : List Addr} {l : List Nat} (h : l ≠ []) : (os.map V.ref) ≠ vn l := by
  cases l with
  | nil => exact absurd rfl h
  | cons x l =>
    cases os with
    | nil => exact fun z => nomatch z
    | cons o os => exact fun z => nomatch (List.cons.inj z).1
/-- what a key's call asks and gives -/
def KeyDef (X : Cx) (T : List (List Nat)) (kf : List Nat → List Nat) (sp : Sp) : Prop :=
  ∀ (b : Addr) (t : List Nat) (H : Hp) (Q : VK) (E : XK), t ∈ T → SqL X.K H b (vn t) → (∀ (H' : Hp) (o : Addr), Same H H' → H' o = some (.lst (vn (kf t))) → Q (.ref o) H') → sp [.ref b] H Q E
theorem rest_by {k : Nat} {f a kS : Addr} {fd : FuncData} {sp : Sp} {kf : List Nat → List Nat} {as : List Addr} {T : List (List Nat)} {A' : Around} {oe : Nat} {P : PySem.Fin → Shared → Prop} {E : Value → Shared → Prop}
    (F : FnOk X.prog X.w X.K X.mg X.base CX0 k f fd ["term"] sp) (hA : A' = X.A.in1.in1) (hr : Room k A') (hb : Binds X.K fd ["term"] []) (hsp : KeyDef X T kf sp) (hkf : ∀ t, kf t ≠ [])
    (hlen : as.length = T.length) (hz : as.length ≤ sizeLine) (hat : ∀ (i : Nat) (b : Addr) (t : List Nat), as[i]? = some b → T[i]? = some t → SqL X.K H b (vn t))
    (fa : Fresh X pins a) (fk : Fresh X pins kS) (hka : kS ≠ a) (hH : H kS = none) (I : Inv X ((a, seqObj "list" #[] oe) :: pins) σ (upd H kS (.lst [])) s)
    (q : ∀ (H' : Hp) (s' : Shared), Inv X pins σ H' s' → Same H H' → H' a = some (.lst (((as.zip T).mergeSort (leB kf)).map fun x => V.ref x.1)) → P (.done (.ret .none)) s') :
    wpAny (model X.prog X.w) A' (ksk_rest a (.ref f) false (as.map Value.ref).toArray oe (.ref kS)) P E s := by
  have hzip : (as.zip T).length = as.length := by rw [List.length_zip, hlen, Nat.min_self]
  unfold ksk_rest
  refine wpAny_bind (wpAny_rule ?_)
  rw [List.forIn_toArray]
  refine wpAny_bind (ksk_fold (fun i s' => ∃ (H' : Hp) (os : List Addr), Inv X ((a, seqObj "list" #[] oe) :: pins) σ H' s' ∧ Same H H' ∧ H' kS = some (.lst (os.map V.ref)) ∧ os.length = i ∧ ∀ (j : Nat) (o : Addr) (t : List Nat), os[j]? = some o → T[j]? = some t → H' o = some (.lst (vn (kf t))))
    (as.map Value.ref) 0 s ⟨_, [], I, same_upd hH, upd_same, rfl, fun j o t ho => by simp at ho⟩ ?turn ?after)
  case turn =>
    rintro j x s' hx ⟨H', os, I', sm, hk, hos, hall⟩
    rw [Nat.zero_add] at hos ⊢
    obtain ⟨b, hbj, rfl⟩ := map_get hx
    obtain ⟨t, htj⟩ := get_ex hlen hbj
    have hjl : j < as.length := (List.getElem?_eq_some_iff.mp hbj).1
    have hbt := sm.seq (hat j b t hbj htj)
    have hcall : wpAny (model X.prog X.w) A' (call (.ref f) [.ref b]) (EP X ((a, seqObj "list" #[] oe) :: pins) σ fun x H'' => Same H' H'' ∧ ∃ o, x = .ref o ∧ H'' o = some (.lst (vn (kf t)))) (fun _ _ => False) s' := by
      refine wpAny_call (codeAny_mono (F.run A' X.stack s' H' ⟨[.ref b], []⟩ [.ref b] [.ref b] (fun x H'' => Same H' H'' ∧ ∃ o, x = V.ref o ∧ H'' o = some (.lst (vn (kf t)))) E0 hr (by rw [hA]; exact I'.env0.in1.in1) (hb s' [.ref b] I'.kIn rfl) (refs_vals [b]) (hsp b t H' _ E0 (List.mem_of_getElem? htj) hbt fun H'' o s2 e2 => ⟨s2, o, rfl, e2⟩)) fun r s'' hq => ?_)
      cases r with
      | error e => exact hq
      | ok fl =>
        cases fl with
        | ret u => exact I'.after hq
        | next => exact False.elim hq
        | brk => exact False.elim hq
        | cont => exact False.elim hq
    refine wpAny_bind (wpAny_attempt (wpAny_mono hcall (fun u s2 he => ?_) fun _ _ hF => hF.elim))
    obtain ⟨x, H2, I2, rx, s12, o, rfl, e2⟩ := he
    cases rx
    have hk2 := s12 _ _ hk
    have hok : o ≠ kS := fun z => by
      rw [z, hk2] at e2
      exact not_ints (hkf t) (HO.lst.inj (Option.some.inj e2))
    obtain ⟨z2, its, n, rv, hob⟩ := I2.hok kS _ hk2
    obtain rfl := refs_eq rv
    have hl1 : os.length < sizeLine := by omega
    refine wpAny_bind (listUpdate_at hob rfl ?_ (by rw [List.size_toArray, List.length_map]; omega) (by rw [Array.size_push, List.size_toArray, List.length_map]; omega))
    have sb := Heap.SameBut.update s2.heap kS (Obj.mapSeq (·.push (Value.ref o)))
    have ev : (os.map Value.ref).toArray.push (Value.ref o) = ((os ++ [o]).map Value.ref).toArray := by simp
    obtain ⟨n', hnew⟩ : ∃ n', (s2.heap.update kS (Obj.mapSeq (·.push (Value.ref o)))).get? kS = some (seqObj "list" ((os ++ [o]).map Value.ref).toArray n') := by
      rw [← ev]
      exact ⟨_, get?_update_seq (c := "list") hob (·.push (Value.ref o))⟩
    refine wpAny_pure ⟨rfl, upd H2 kS (.lst ((os ++ [o]).map V.ref)), os ++ [o], I2.write (x := kS) (e := kS) (by rw [hk2]; trivial) (.inl rfl) (fun d v hd e => (sb.2 d hd).trans e) ⟨_, hnew⟩ ⟨by rw [List.length_map, List.length_append]; exact hl1, _, _, refs_vals _, hnew⟩, fun d v e => ?_, upd_same, by rw [List.length_append, hos]; rfl, fun i d u hd hu => ?_⟩
    · rw [upd_ne (ne_of_none e hH)]
      exact s12 _ _ (sm d v e)
    · have hdk : H2 d = some (.lst (vn (kf u))) := by
        rcases Nat.lt_or_ge i os.length with hi | hi
        · rw [List.getElem?_append_left hi] at hd
          exact s12 _ _ (hall i d u hd hu)
        · rw [List.getElem?_append_right hi] at hd
          have e3 : i = j := by
            have := (List.getElem?_eq_some_iff.mp hd).1
            rw [List.length_singleton] at this
            omega
          subst e3
          rw [hos, Nat.sub_self] at hd
          rw [← show o = d from Option.some.inj hd, ← show t = u from Option.some.inj (htj.symm.trans hu)]
          exact e2
      have hne : d ≠ kS := fun z => by
        rw [z, hk2] at hdk
        exact not_ints (hkf u) (HO.lst.inj (Option.some.inj hdk))
      rw [upd_ne hne]
      exact hdk
  case after =>
    rintro s' ⟨H', os, I', sm, hk, hos, hall⟩
    rw [Nat.zero_add, List.length_map] at hos
    obtain ⟨z2, its, n, rv, hob⟩ := I'.hok kS _ hk
    obtain rfl := refs_eq rv
    have pa := I'.pin (a, _) (List.mem_append_right _ (List.mem_cons_self ..))
    obtain ⟨g, hg1, hg2⟩ := without_one s'.heap kS
    refine wpAny_bind (listItems_at hob rfl ?_)
    have rd : PySem.W.EachIs (fun v d => ∃ bs, Reads s'.heap v d bs) (os.map Value.ref) ((as.zip T).map fun x => dN (kf x.2)) := by
      refine each_at (by rw [List.length_map, List.length_map, hzip, hos]) fun i v d hv hd => ?_
      obtain ⟨o, ho, rfl⟩ := map_get hv
      obtain ⟨x, hx, rfl⟩ := map_get hd
      have hx2 := (List.getElem?_zip_eq_some.mp hx).2
      exact Dp.reads I' (dN (kf x.2)) (.ref o) (.ref o) (.lst (SqL.of (hall i o x.2 ho hx2)) (dpAll_vn _)) rfl
    have hal : PySem.W.AllAlike ((as.zip T).map fun x => dN (kf x.2)) := PySem.W.AllAlike.of (enc := fun x : Addr × List Nat => dN (kf x.2)) fun x y => by
      show PySem.W.alike (dN (kf x.2)) (dN (kf y.2)) = true
      rw [dN, dN, PySem.W.alike]
      exact alike_dN _ _
    have hsk : PySem.W.Sortable ((as.zip T).map fun x => dN (kf x.2)) := PySem.W.Sortable.others (enc := fun x : Addr × List Nat => dN (kf x.2)) fun x => ⟨(fun z => nomatch z), (fun xs z => nomatch z)⟩
    have hu : ∀ d, d ∈ ((as.zip T).map fun x => dN (kf x.2)) → A'.units + d.depth < cLine := fun d hd => by
      obtain ⟨x, _, rfl⟩ := List.mem_map.mp hd
      have h1 := depth_dN (kf x.2)
      have h2 := hr.un
      omega
    refine PySem.W.keyH_end (κ := PySem.W.dataKind s'.heap ((as.zip T).map fun x => dN (kf x.2))) (h₁ := g) (keys := (os.map Value.ref).toArray) (vs := as.map Value.ref) (fun d v hd e => ?_) hg1 hob pa.1 hka (by
      have := PySem.W.SortsAt.data (prog := X.prog) (w := X.w) (A := A') (s := s') rd hal hsk hu
      simpa using this) (by rw [List.size_toArray, List.length_map, List.length_map, hos]) (by rw [List.length_map]; exact hz) fun h3 tk c kb h3a => ?_
    · by_cases hdk : d = kS
      · rw [hdk, hg1] at e
        cases e
      · rw [hg2 d hdk] at e
        exact e
    · have ko : PySem.W.KeyedOut false ((as.zip T).map fun x => dN (kf x.2)) (as.map Value.ref) (PySem.W.sortVals (PySem.W.dataKind s'.heap ((as.zip T).map fun x => dN (kf x.2))) false (os.map Value.ref) (as.map Value.ref)) := ⟨s'.heap, os.map Value.ref, hal, rfl, rd⟩
      have eo := PySem.W.keyedOut_each (R := fun (u : Value) (x : Addr × List Nat) => u = Value.ref x.1) (fun x : Addr × List Nat => dN (kf x.2)) ko (each_at (by rw [List.length_map, hzip]) fun i v x hv hx => by
        obtain ⟨b, hbi, rfl⟩ := map_get hv
        have hx1 := (List.getElem?_zip_eq_some.mp hx).1
        rw [Option.some.inj (hbi.symm.trans hx1)])
      have eo2 := each_ref (g := fun x : Addr × List Nat => x.1) eo
      have hml : (((as.zip T).mergeSort (leB kf)).map fun x => x.1).length ≤ sizeLine := by
        rw [List.length_map, List.length_mergeSort, hzip]
        exact hz
      have h3b : h3.get? a = some (seqObj "list" ((((as.zip T).mergeSort (leB kf)).map fun x => x.1).map Value.ref).toArray c) := by
        rw [h3a]
        congr 2
        simpa [leB] using congrArg List.toArray eo2
      refine q _ _ (inv_sorted (tk := tk) I' fa fk hka hk (fun d v h1 h2 e => kb d v h1 (by rw [hg2 d h2]; exact e)) h3b hml) (fun d v e => ?_) ?_
      · have h1 : d ≠ kS := ne_of_none e hH
        have h2 : d ≠ a := ne_of_none (sm d v e) pa.2.1
        show (if d = kS then none else upd H' a _ d) = some v
        rw [if_neg h1, upd_ne h2]
        exact sm d v e
      · show (if a = kS then none else upd H' a _ a) = _
        rw [if_neg (Ne.symm hka), upd_same, List.map_map]
        rfl
/-- sorted(xs, key=f): the rows in the order of their keys -/
theorem sorted_by {k : Nat} {f l : Addr} {fd : FuncData} {sp : Sp} {kf : List Nat → List Nat} {as : List Addr} {T : List (List Nat)} {Q : VK}
    (F : FnOk X.prog X.w X.K X.mg X.base CX0 k f fd ["term"] sp) (hr : Room (k + 1 + 1) X.A) (hb : Binds X.K fd ["term"] []) (hsp : KeyDef X T kf sp) (hkf : ∀ t, kf t ≠ [])
    (I : Inv X pins σ H s) (hl : SqL X.K H l (as.map V.ref)) (hlen : as.length = T.length) (hat : ∀ (i : Nat) (b : Addr) (t : List Nat), as[i]? = some b → T[i]? = some t → SqL X.K H b (vn t))
    (q : ∀ (H' : Hp) (o : Addr), Same H H' → H' o = some (.lst (((as.zip T).mergeSort (leB kf)).map fun x => V.ref x.1)) → Q (.ref o) H') :
    wpAny (model X.prog X.w) X.A (call (.builtin "sorted") [.ref l] [(Str.ofString "key", .ref f)]) (EP X pins σ Q) X.xe s := by
  obtain ⟨its, rv, hpl, hz⟩ := I.list hl
  obtain rfl := refs_eq rv
  rw [List.length_map] at hz
  have hz2 : (as.map Value.ref).length ≤ sizeLine := by
    rw [List.length_map]
    exact hz
  refine PySem.W.sorted_of_sort hpl.isList hz2 (ksk_s1 _ _) (fun _ => ksk_l1 _ _) fun E' => ?_
  rw [ksk_t1]
  have hc := PySem.W.copyHeap_at s.heap (as.map Value.ref)
  have hcl : s.heap.objs.size + 1 < (PySem.W.copyHeap s.heap (as.map Value.ref)).objs.size := Heap.lt_size hc
  have hold : ∀ b o, s.heap.get? b = some o → (PySem.W.copyHeap s.heap (as.map Value.ref)).get? b = some o := fun b o e => PySem.W.copyHeap_old e
  obtain ⟨g, eg⟩ : ∃ g, g = PySem.W.copyHeap s.heap (as.map Value.ref) := ⟨_, rfl⟩
  rw [← eg] at hc hcl hold ⊢
  obtain ⟨oe, hoe⟩ : ∃ oe, (g.update (s.heap.objs.size + 1) (Obj.mapSeq fun _ => (#[] : Array Value))).get? (s.heap.objs.size + 1) = some (seqObj "list" #[] oe) := ⟨_, get?_update_seq hc fun _ => #[]⟩
  have sb := Heap.SameBut.update g (s.heap.objs.size + 1) (Obj.mapSeq fun _ => (#[] : Array Value))
  unfold ksk_tree
  refine wpAny_bind (listItems_at hc rfl (wpAny_bind (listUpdate_at hc rfl (wpAny_bind (seqEpoch_at hoe rfl (wpAny_bind (wpAny_newTuple (wpAny_bind (wpAny_newList (wpAny_holding ?_) (Nat.zero_le _))) (by simpa using hz))))) (by rw [List.size_toArray]; exact hz2) (Nat.zero_le _))))
  have fa : Fresh X pins (s.heap.objs.size + 1) := fresh_of I (Nat.le_succ _)
  obtain ⟨kS, ekS⟩ : ∃ kS, kS = ((g.update (s.heap.objs.size + 1) (Obj.mapSeq fun _ => (#[] : Array Value))).push (seqObj "tuple" (as.map Value.ref).toArray 0)).objs.size := ⟨_, rfl⟩
  have hkb : s.heap.objs.size + 1 < kS := by
    rw [ekS, size_push', Heap.size_update]
    omega
  have fk : Fresh X pins kS := fresh_of I (by omega)
  have hHk : H kS = none := I.hok.fresh (by omega)
  have hHa : H (s.heap.objs.size + 1) = none := I.hok.fresh (by omega)
  have keep : ∀ b o, s.heap.get? b = some o → (((g.update (s.heap.objs.size + 1) (Obj.mapSeq fun _ => (#[] : Array Value))).push (seqObj "tuple" (as.map Value.ref).toArray 0)).push (seqObj "list" #[] 0)).get? b = some o := fun b o e =>
    Heap.get?_push_of_some _ (Heap.get?_push_of_some _ ((sb.2 b (Nat.ne_of_lt (Nat.lt_succ_of_lt (Heap.lt_size e)))).trans (hold b o e)))
  have hkS : (((g.update (s.heap.objs.size + 1) (Obj.mapSeq fun _ => (#[] : Array Value))).push (seqObj "tuple" (as.map Value.ref).toArray 0)).push (seqObj "list" #[] 0)).get? kS = some (seqObj "list" #[] 0) := by
    rw [ekS]
    exact Heap.get?_push_size _ rfl
  have hSa : (((g.update (s.heap.objs.size + 1) (Obj.mapSeq fun _ => (#[] : Array Value))).push (seqObj "tuple" (as.map Value.ref).toArray 0)).push (seqObj "list" #[] 0)).get? (s.heap.objs.size + 1) = some (seqObj "list" #[] oe) := Heap.get?_push_of_some _ (Heap.get?_push_of_some _ hoe)
  have I1 := I.laid (t' := s.toks) (o := .lst []) keep (show s.heap.objs.size ≤ kS by omega) ⟨Nat.zero_le _, [], 0, .nil, hkS⟩
  have I2 : Inv X ((s.heap.objs.size + 1, seqObj "list" #[] oe) :: pins) σ (upd H kS (.lst [])) _ := I1.pins_of fun p hp => by
    rcases List.mem_cons.mp hp with rfl | hp
    · exact ⟨hSa, by rw [upd_ne (Nat.ne_of_lt hkb)]; exact hHa, fa.loc, fa.fs, fun v z => nomatch z⟩
    · exact I1.pin p (List.mem_append_right _ hp)
  have fin := rest_by (kS := kS) (a := s.heap.objs.size + 1) (E := E') (P := fun fi s' => fi = .done (.ret .none) ∧ EP X pins σ Q (.ref (s.heap.objs.size + 1)) s') F rfl hr.in1.in1 hb hsp hkf hlen hz hat fa fk (Nat.ne_of_gt hkb) hHk I2 fun H' s' I' sm ha => ⟨rfl, .ref _, H', I', rfl, q H' _ sm ha⟩
  rw [ekS] at fin
  exact fin
end
end Nz
set_option maxHeartbeats 1000000
namespace Nz
open PySem PySem.Spec PyProof.Rows L2
/-! ### the order of rows: any two are in order one way or the other -/
theorem rowLt_asym : ∀ {a b : List Nat}, rowLt a b = true → rowLt b a = false
  | [], [], h => by cases h
  | [], _ :: _, _ => rfl
  | _ :: _, [], h => by cases h
  | x :: a, y :: b, h => by
    rw [rowLt] at h ⊢
    by_cases e : x = y
    · rw [if_pos e] at h
      rw [if_pos e.symm]
      exact rowLt_asym h
    · rw [if_neg e, decide_eq_true_eq] at h
      rw [if_neg (fun z => e z.symm), decide_eq_false_iff_not]
      omega
theorem rowLt_neg : ∀ {a b c : List Nat}, rowLt b a = false → rowLt c b = false → rowLt c a = false
  | [], _, [], _, _ => rfl
  | _ :: _, [], _, h, _ => by cases h
  | _, _ :: _, [], _, h => by cases h
  | [], _, _ :: _, _, _ => rfl
  | x :: a, y :: b, z :: c, h1, h2 => by
    rw [rowLt] at h1 h2 ⊢
    by_cases e1 : y = x
    · rw [if_pos e1] at h1
      by_cases e2 : z = y
      · rw [if_pos e2] at h2
        rw [if_pos (e2.trans e1)]
        exact rowLt_neg h1 h2
      · rw [if_neg e2, decide_eq_false_iff_not] at h2
        rw [if_neg (by omega), decide_eq_false_iff_not]
        omega
    · rw [if_neg e1, decide_eq_false_iff_not] at h1
      by_cases e2 : z = y
      · rw [if_neg (by omega), decide_eq_false_iff_not]
        omega
      · rw [if_neg e2, decide_eq_false_iff_not] at h2
        rw [if_neg (by omega), decide_eq_false_iff_not]
        omega
theorem leB_is (kf : List Nat → List Nat) (x y : Addr × List Nat) : leB kf x y = !rowLt (kf y.2) (kf x.2) := by
  have e : PySem.W.dataLt (dN (kf y.2)) (dN (kf x.2)) = rowLt (kf y.2) (kf x.2) := (PySem.W.dataLt_list _ _).trans (lt_dN _ _)
  rw [← e]
  rfl
theorem sorted_pw (kf : List Nat → List Nat) (l : List (Addr × List Nat)) : (l.mergeSort (leB kf)).Pairwise fun x y => rowLt (kf y.2) (kf x.2) = false := by
  have h := List.pairwise_mergeSort (le := leB kf) (fun a b c h1 h2 => by
    rw [leB_is, Bool.not_eq_true'] at h1 h2 ⊢
    exact rowLt_neg h1 h2) (fun a b => by
    rw [leB_is, leB_is]
    cases e : rowLt (kf b.2) (kf a.2) with
    | false => rfl
    | true => rw [rowLt_asym e]; rfl) l
  exact h.imp fun {x y} e => by
    rw [leB_is, Bool.not_eq_true'] at e
    exact e
/-- the place of a term by its order -/
def plc (t : List Nat) : List Nat := Kzt1.total t.tail :: t.tail
theorem plc_ne (t : List Nat) : plc t ≠ [] := fun z => nomatch z
/-- what sorted leaves: the same rows, in their order -/
theorem sorted_rows {n : Nat} {H : Hp} {as : List Addr} {T : List (List Nat)} {o : Addr} (hR : Rows n T) (hlen : as.length = T.length) (hall : ∀ (i : Nat) (b : Addr) (t : List Nat), as[i]? = some b → T[i]? = some t → H b = some (.lst (vn t)))
    (ho : H o = some (.lst (((as.zip T).mergeSort (leB plc)).map fun x => V.ref x.1))) :
    ∃ G : List (List Nat), TTr H o G ∧ G.Perm T ∧ G.Pairwise fun a b => Kzt1.before b.tail a.tail = false := by
  have hp := List.mergeSort_perm (as.zip T) (leB plc)
  have hsnd : (as.zip T).map (·.2) = T := by
    rw [List.map_snd_zip]
    omega
  have hperm : (((as.zip T).mergeSort (leB plc)).map (·.2)).Perm T := by
    have := hp.map (·.2)
    rwa [hsnd] at this
  refine ⟨((as.zip T).mergeSort (leB plc)).map (·.2), ⟨((as.zip T).mergeSort (leB plc)).map (·.1), ?_, ?_, ?_⟩, hperm, ?_⟩
  · rw [ho, List.map_map]
    rfl
  · rw [List.length_map, List.length_map]
  · intro i b t hb ht
    obtain ⟨x, hx, rfl⟩ := map_get hb
    obtain ⟨y, hy, rfl⟩ := map_get ht
    have exy : x = y := Option.some.inj (hx.symm.trans hy)
    subst exy
    have hm : x ∈ as.zip T := hp.mem_iff.mp (List.mem_of_getElem? hx)
    obtain ⟨j, hj⟩ := List.getElem?_of_mem hm
    obtain ⟨h1, h2⟩ := List.getElem?_zip_eq_some.mp hj
    exact hall j x.1 x.2 h1 h2
  · refine List.pairwise_map.mpr (List.Pairwise.imp_of_mem (fun {x y} hx hy h => ?_) (sorted_pw plc (as.zip T)))
    have lx : x.2.length = n + 1 := hR _ (hperm.mem_iff.mp (List.mem_map_of_mem hx))
    have ly : y.2.length = n + 1 := hR _ (hperm.mem_iff.mp (List.mem_map_of_mem hy))
    rw [plc, plc, rowLt_before (by rw [List.length_tail, List.length_tail, lx, ly])] at h
    exact h
/-! ### sorted as a rule of the layer -/
def rSortBy (K : PySem.W.Frag) (f : Addr) (kf : List Nat → List Nat) : List V → List V → Hp → VK → Prop := fun vs zs H Q => ∃ (l : Addr) (as : List Addr) (T : List (List Nat)), vs = [.ref l] ∧ zs = [.ref f] ∧ SqL K H l (as.map V.ref) ∧ as.length = T.length ∧
  (∀ (i : Nat) (b : Addr) (t : List Nat), as[i]? = some b → T[i]? = some t → SqL K H b (vn t)) ∧ (∀ t ∈ T, t.length ≤ 1000) ∧
  ∀ (H' : Hp) (o : Addr), Same H H' → H' o = some (.lst (((as.zip T).mergeSort (leB kf)).map fun x => V.ref x.1)) → Q (.ref o) H'
theorem cr_sortBy {X : Cx} {k : Nat} {f : Addr} {fd : FuncData} {sp : Sp} {kf : List Nat → List Nat} (F : FnOk X.prog X.w X.K X.mg X.base CX0 k f fd ["term"] sp) (hr : Room (k + 1 + 1) X.A) (hb : Binds X.K fd ["term"] [])
    (hsp : ∀ T : List (List Nat), (∀ t ∈ T, t.length ≤ 1000) → KeyDef X T kf sp) (hkf : ∀ t, kf t ≠ []) : CallRK X (.builtin "sorted") [Str.ofString "key"] (rSortBy X.K f kf) := by
  intro pins s σ H vs zs us ws Q I r rz h
  obtain ⟨l, as, T, rfl, rfl, hl, hlen, hat, hT, q⟩ := h
  obtain rfl := Vals.ref1 r
  obtain rfl := Vals.ref1 rz
  exact sorted_by F hr hb (hsp T hT) hkf I hl hlen hat q
end Nz
namespace Nz
open PySem PySem.Spec PyProof.Rows L2
def topS (i : Nat) : Stmt := PySem.Challenge.pw_noughtsets_s04_plus.main.body.getD i (.Pass ⟨0, 0, 0, 0⟩)
abbrev sIs : Stmt := topS 7
section
variable {P : Program} {w : World} {K : PySem.W.Frag} {mg : Str → Option Value} {base : Heap}
/-! ### is_space -/
theorem scIs : FnScope ["p", "n"] ["p", "n"] (defScope sIs) := ⟨rfl, rfl, rfl, by decide +kernel, rfl, by decide +kernel, by decide +kernel⟩
def spIs : Sp := fun vs H Q _ => ∃ (p n : Nat), vs = [.int (p : Int), .int (n : Int)] ∧ Q (.bl (Kzt1.okField p n)) H
theorem in_primes (p : Nat) : inV (.int (p : Int)) [.int 2, .int 3, .int 5, .int 7] = (p == 2 || p == 3 || p == 5 || p == 7) := by
  have e : ∀ k : Nat, ((k : Int) == (p : Int)) = (p == k) := fun k => by
    rw [Bool.eq_iff_iff, beq_iff_eq, beq_iff_eq]
    omega
  show ((2 : Int) == (p : Int) || ((3 : Int) == (p : Int) || ((5 : Int) == (p : Int) || ((7 : Int) == (p : Int) || false)))) = _
  rw [show ((2 : Int) == (p : Int)) = (p == 2) from e 2, show ((3 : Int) == (p : Int)) = (p == 3) from e 3, show ((5 : Int) == (p : Int)) = (p == 5) from e 5, show ((7 : Int) == (p : Int)) = (p == 7) from e 7, Bool.or_false, Bool.or_assoc, Bool.or_assoc]
theorem ok_is {f aP : Addr} {fd : FuncData} {k : Nat} {tM : Tok} (F : Fun K "is_space" "is_space" sIs f fd) (gP : mg "PRIMES" = some (.ref aP)) (hP : ∀ H : Hp, SqT K H aP [.int 2, .int 3, .int 5, .int 7]) (gM : mg "MOST_UNKNOWNS" = some (.int 3 tM)) : FnOk P w K mg base CX0 (k + 1) f fd ["p", "n"] spIs := by
  refine F.ok scIs (fun vs H Q E h => ?_) (fun cdv A outer s H vs Q E hr h => ?_)
  · obtain ⟨p, n, rfl, _⟩ := h
    rfl
  · obtain ⟨p, n, rfl, q⟩ := h
    refine ⟨_, pss_one (ps_ret (pe_and (pe_cmpR op_in_seq (pv 0) (pe_glob (v := .ref aP) rfl gP rfl) (by rfl)) (pe_and (pe_cmpR op_le pe_int (pv 1) (nomark _)) (pe_one (pe_cmpR op_le (pv 1) (pe_glob (v := .int 3) rfl gM ⟨_, rfl⟩) (nomark _)))))), ?_⟩
    refine ⟨_, rfl, aP, _, rfl, .inr (hP H), rfl, rfl, _, rfl, ?_⟩
    have e : Kzt1.okField p n = ((p == 2 || p == 3 || p == 5 || p == 7) && decide (1 ≤ n) && decide (n ≤ 3)) := rfl
    show if inV (.int (p : Int)) [.int 2, .int 3, .int 5, .int 7] = true then _ else _
    rw [in_primes]
    cases c1 : (p == 2 || p == 3 || p == 5 || p == 7) with
    | false =>
      rw [e, c1] at q
      exact iteF q
    | true =>
      refine iteT ⟨_, rfl, _, _, rfl, rfl, _, rfl, ?_⟩
      have e2 : decide ((1 : Int) ≤ (n : Int)) = decide (1 ≤ n) := decide_eq_decide.mpr (by omega)
      rw [e2]
      cases c2 : decide (1 ≤ n) with
      | false =>
        rw [e, c1, c2] at q
        exact iteF q
      | true =>
        refine iteT ⟨_, rfl, _, _, rfl, rfl, ?_⟩
        have e3 : decide ((n : Int) ≤ (3 : Int)) = decide (n ≤ 3) := decide_eq_decide.mpr (by omega)
        show Q (V.bl (decide ((n : Int) ≤ (3 : Int)))) H
        rw [e3]
        rw [e, c1, c2] at q
        exact q
end
end Nz
namespace Nz
open PySem PySem.Spec PyProof.Rows L2
abbrev sTp : Stmt := topS 10
section
variable {P : Program} {w : World} {K : PySem.W.Frag} {mg : Str → Option Value} {base : Heap}
/-! ### term_place -/
theorem scTp : FnScope ["term"] ["term"] (defScope sTp) := ⟨rfl, rfl, rfl, by decide +kernel, rfl, by decide +kernel, by decide +kernel⟩
def spTp (K : PySem.W.Frag) : Sp := fun vs H Q _ => ∃ (a : Addr) (t : List Nat), vs = [.ref a] ∧ SqL K H a (vn t) ∧ t.length ≤ 1000 ∧ ∀ (H' : Hp) (o : Addr), Same H H' → H' o = some (.lst (vn (Kzt1.total t.tail :: t.tail))) → Q (.ref o) H'
theorem ok_tp {f : Addr} {fd : FuncData} {k : Nat} (F : Fun K "term_place" "term_place" sTp f fd) (ms : mg "sum" = none) : FnOk P w K mg base CX0 (k + 1) f fd ["term"] (spTp K) := by
  refine F.ok scTp (fun vs H Q E h => ?_) (fun cdv A outer s H vs Q E hr h => ?_)
  · obtain ⟨a, t, rfl, _⟩ := h
    rfl
  · obtain ⟨a, t, rfl, hT, hlen, q⟩ := h
    refine ⟨_, pss_one (ps_ret (pe_op op_cat (pe_lst (pa_cons (pe_callB (cr_sum rfl) (by rfl) ms (by decide +kernel) (pa_cons (pe_slice sl_list (pv 0) (po_some pe_int) po_none) pa_nil)) pa_nil)) (pe_slice sl_list (pv 0) (po_some pe_int) po_none))), ?_⟩
    refine ⟨_, rfl, 1, rfl, a, _, rfl, hT, fun o no => ?_⟩
    rw [cut_tail]
    have s1 : Same H (upd H o (.lst (vn t.tail))) := same_upd no
    refine ⟨o, natI t.tail, rfl, SqL.of upd_same, (by show 1 ≤ sizeLine; decide), fun o2 no2 => ?_⟩
    have s2 := same_upd (o := .lst [.int (natI t.tail).sum]) no2
    refine ⟨_, rfl, 1, rfl, a, _, rfl, (s1.trans s2).seq hT, fun o3 no3 => ?_⟩
    rw [cut_tail]
    have s3 := same_upd (o := .lst (vn t.tail)) no3
    refine ⟨o2, o3, _, _, rfl, rfl, s3 _ _ upd_same, upd_same, ?_, fun o4 no4 => ?_⟩
    · rw [vn_len, List.length_tail]
      show 1 + (t.length - 1) ≤ sizeLine
      exact Nat.le_of_lt (small1000 (by omega))
    · refine q _ o4 (((s1.trans s2).trans s3).trans (same_upd no4)) ?_
      rw [upd_same, sum_natI]
      rfl
end
end Nz
namespace Nz
open PySem PySem.Spec PyProof.Rows L2
abbrev sIt : Stmt := topS 8
section
variable {P : Program} {w : World} {K : PySem.W.Frag} {mg : Str → Option Value} {base : Heap}
/-! ### is_term -/
theorem scIt : FnScope ["p", "term"] ["p", "term"] (defScope sIt) := ⟨rfl, rfl, rfl, by decide +kernel, rfl, by decide +kernel, by decide +kernel⟩
def spIt (K : PySem.W.Frag) : Sp := fun vs H Q _ => ∃ (p : Nat) (a : Addr) (t : List Nat), vs = [.int (p : Int), .ref a] ∧ SqL K H a (vn t) ∧ 2 ≤ t.length ∧ ∀ H' : Hp, Same H H' → Q (.bl (isT p t)) H'
theorem two_of {t : List Nat} (h : 2 ≤ t.length) : ∃ c u e, t = c :: u :: e := by
  match t, h with
  | c :: u :: e, _ => exact ⟨c, u, e, rfl⟩
theorem mem_natI {l : List Nat} {m : Int} (h : m ∈ natI l) : ∃ y ∈ l, m = ((y : Nat) : Int) := by
  obtain ⟨y, hy, e⟩ := List.mem_map.mp h
  exact ⟨y, hy, e.symm⟩
theorem ok_it {f : Addr} {fd : FuncData} {k : Nat} {tM : Tok} (F : Fun K "is_term" "is_term" sIt f fd) (mm : mg "max" = none) (gM : mg "MOST_OFTEN" = some (.int 12 tM)) : FnOk P w K mg base CX0 (k + 1) f fd ["p", "term"] (spIt K) := by
  refine F.ok scIt (fun vs H Q E h => ?_) (fun cdv A outer s H vs Q E hr h => ?_)
  · obtain ⟨p, a, t, rfl, _⟩ := h
    rfl
  · obtain ⟨p, a, t, rfl, hT, hlen, q⟩ := h
    refine ⟨_, pss_one (ps_ret (pe_and (pe_cmpR op_le pe_int (pe_ix ix_list (pv 1) pe_int (fun _ _ => rfl)) (nomark _))
      (pe_and (pe_cmpR op_lt (pe_ix ix_list (pv 1) pe_int (fun _ _ => rfl)) (pv 0) (nomark _))
      (pe_one (pe_cmpR op_le (pe_callB (cr_max rfl) (by rfl) mm (by decide +kernel) (pa_cons (pe_slice sl_list (pv 1) (po_some pe_int) po_none) pa_nil)) (pe_glob (v := .int 12) rfl gM ⟨_, rfl⟩) (nomark _)))))), ?_⟩
    obtain ⟨c, u, e, rfl⟩ := two_of hlen
    have e0 : isT p (c :: u :: e) = (decide (1 ≤ c) && decide (c < p) && (u :: e).all fun x => decide (x ≤ 12)) := rfl
    refine ⟨_, rfl, a, _, 0, .int (c : Int), rfl, rfl, hT, atI_nat (j := 0) rfl, _, _, rfl, rfl, _, rfl, ?_⟩
    rw [show decide ((1 : Int) ≤ (c : Int)) = decide (1 ≤ c) from decide_eq_decide.mpr (by omega)]
    cases c1 : decide (1 ≤ c) with
    | false =>
      rw [e0, c1] at q
      exact iteF (q H (Same.refl H))
    | true =>
      refine iteT ⟨_, rfl, a, _, 0, .int (c : Int), rfl, rfl, hT, atI_nat (j := 0) rfl, _, rfl, _, _, rfl, rfl, _, rfl, ?_⟩
      rw [show decide ((c : Int) < (p : Int)) = decide (c < p) from decide_eq_decide.mpr (by omega)]
      cases c2 : decide (c < p) with
      | false =>
        rw [e0, c1, c2] at q
        exact iteF (q H (Same.refl H))
      | true =>
        refine iteT ⟨_, rfl, 1, rfl, a, _, rfl, hT, fun o no => ?_⟩
        rw [cut_tail]
        refine ⟨o, natI (u :: e), rfl, SqL.of upd_same, by simp [natI], fun m hm hle => ⟨_, _, rfl, rfl, ?_⟩⟩
        have e3 : decide (m ≤ 12) = ((u :: e).all fun x => decide (x ≤ 12)) := by
          rw [Bool.eq_iff_iff, decide_eq_true_eq, List.all_eq_true]
          constructor
          · intro h y hy
            have := hle (y : Int) (List.mem_map_of_mem hy)
            exact decide_eq_true (by omega)
          · intro h
            obtain ⟨y, hy, rfl⟩ := mem_natI hm
            have := of_decide_eq_true (h y hy)
            omega
        show Q (V.bl (decide (m ≤ 12))) _
        rw [e3]
        rw [e0, c1, c2] at q
        exact q _ (same_upd no)
end
end Nz
namespace Nz
open PySem PySem.Spec PyProof.Rows L2
abbrev sCt : Stmt := topS 11
abbrev sIo : Stmt := topS 9
abbrev sIp : Stmt := topS 6
section
variable {P : Program} {w : World} {K : PySem.W.Frag} {mg : Str → Option Value} {base : Heap}
/-! ### cut_terms -/
theorem scCt : FnScope ["n", "f", "k"] ["n", "f"] (defScope sCt) := ⟨rfl, rfl, rfl, by decide +kernel, rfl, by decide +kernel, by decide +kernel⟩
def spCt (K : PySem.W.Frag) : Sp := fun vs H Q _ => ∃ (n : Nat) (a : Addr) (T : List (List Nat)), vs = [.int (n : Int), .ref a] ∧ SqL K H a (vn T.flatten) ∧ Rows n T ∧ n ≤ 3 ∧ T.flatten.length ≤ 400 ∧ ∀ (H' : Hp) (o : Addr), Same H H' → TTr H' o T → Q (.ref o) H'
theorem rg_cut {m n : Nat} (hn : n ≤ 3) (hm : m * (n + 1) ≤ 400) : RgC 0 ((m * (n + 1) : Nat) : Int) ((n : Int) + 1) m := by
  have e : Builtin.Range.rangeSize 0 ((m * (n + 1) : Nat) : Int) ((n : Int) + 1) = (m : Int) := by
    rw [rangeSize_pos (by omega) (by omega)]
    have e1 : ((m * (n + 1) : Nat) : Int) + ((n : Int) + 1) - 1 = (n : Int) + (m : Int) * ((n : Int) + 1) := by
      rw [Int.natCast_mul, Int.natCast_add]
      show (m : Int) * ((n : Int) + 1) + ((n : Int) + 1) - 1 = _
      omega
    rw [e1, Int.add_mul_ediv_right _ _ (by omega), Int.ediv_eq_zero_of_lt (by omega) (by omega)]
    omega
  have hm2 : m ≤ 400 := Nat.le_trans (Nat.le_mul_of_pos_right m (by omega)) hm
  refine ⟨by omega, by omega, ?_, e⟩
  unfold Builtin.Range.small
  rw [e]
  simp only [Builtin.Range.rangeFitsLong, Bool.and_eq_true, Bool.or_eq_true, decide_eq_true_eq, beq_iff_eq]
  have e3 : ((m * (n + 1) : Nat) : Int) ≤ 400 := Int.ofNat_le.mpr hm
  have e4 : (0 : Int) ≤ ((m * (n + 1) : Nat) : Int) := Int.natCast_nonneg _
  generalize ((m * (n + 1) : Nat) : Int) = z at e3 e4 ⊢
  refine ⟨⟨⟨⟨⟨by decide, by decide⟩, by omega, by omega⟩, by omega, by omega⟩, by omega, by omega⟩, .inr ?_⟩
  rw [if_pos (by omega), Bool.and_eq_true, decide_eq_true_eq, decide_eq_true_eq]
  exact ⟨by omega, by omega⟩
theorem ok_ct {f : Addr} {fd : FuncData} {k : Nat} (F : Fun K "cut_terms" "cut_terms" sCt f fd) (mr : mg "range" = none) (ml : mg "len" = none) : FnOk P w K mg base CX0 (k + 1) f fd ["n", "f"] (spCt K) := by
  refine F.ok scCt (fun vs H Q E h => ?_) (fun cdv A outer s H vs Q E hr h => ?_)
  · obtain ⟨n, a, T, rfl, _⟩ := h
    rfl
  · obtain ⟨n, a, T, rfl, hF, hR, hn, hlen, q⟩ := h
    refine ⟨_, pss_one (ps_ret (pe_lc (own := [("k", 2)]) (g := gName 2) (tt := tYes) (te := tSl (rSlL K) (tVar 1) (tPart (tVar 2)) (tPart (tOp (rI0 fun i j => .int (i + j)) (tOp (rI0 fun i j => .int (i + j)) (tVar 2) (tVar 0)) (tC (.int 1))))) rfl scCt.nd
      (pi_range3 rfl mr (pa_cons pe_int (pa_cons (pe_callB call_len_seq (by rfl) ml PySem.boot_len (pa_cons (pv 1) pa_nil)) (pa_cons (pe_op op_add (pv 0) pe_int) pa_nil))))
      (blkOk_by (own := [("k", 2)]) (N := ["n", "f", "k"]) (sc := defScope sCt) (by decide +kernel))
      (fun _ _ _ _ _ => pg_name (i := 2) scCt.nd rfl (Or.inl rfl)) (fun _ _ _ _ _ => pts_nil)
      (fun _ _ _ _ _ => pe_slice sl_list (pv 1) (po_some (pv 2)) (po_some (pe_op op_add (pe_op op_add (pv 2) (pv 0)) pe_int))))), ?_⟩
    have hfl := flat_len hR
    refine ⟨_, rfl, a, _, rfl, .inl hF, _, rfl, _, _, rfl, rfl, 0, ((T.length * (n + 1) : Nat) : Int), ((n : Int) + 1), T.length, ?_, rg_cut hn (by omega), fun D hD => ?_⟩
    · rw [vn_len, hfl]
    have s1 : Same H (upd H D (.lst [])) := same_upd hD
    refine ⟨fun i m H' => m = T.length - i ∧ i ≤ T.length ∧ Same H H' ∧ ∃ as : List Addr, H' D = some (.lst (as.map V.ref)) ∧ as.length = i ∧ ∀ (j : Nat) (b : Addr) (t : List Nat), as[j]? = some b → T[j]? = some t → b ≠ D ∧ H' b = some (.lst (vn t)),
      ⟨T.length, rfl, Nat.zero_le _, s1, [], upd_same, rfl, fun j b t hb => by simp at hb⟩, ?_⟩
    rintro i m H' ⟨rfl, hi, sm, as, hDs, has, hall⟩
    by_cases hlt : i < T.length
    · refine .inr ⟨hlt, fun H2 => Same H H2 ∧ ∃ as : List Addr, H2 D = some (.lst (as.map V.ref)) ∧ as.length = i + 1 ∧ ∀ (j : Nat) (b : Addr) (t : List Nat), as[j]? = some b → T[j]? = some t → b ≠ D ∧ H2 b = some (.lst (vn t)), fun H2 hN => ?_, fun y H2 hy => ?_⟩
      · exact ⟨T.length - (i + 1), by omega, rfl, hlt, hN⟩
      · obtain ⟨rfl, rfl⟩ := hy
        obtain ⟨t, hti⟩ : ∃ t, T[i]? = some t := ⟨T[i], List.getElem?_eq_getElem hlt⟩
        have e1 : (0 : Int) + (i : Int) * ((n : Int) + 1) = ((i * (n + 1) : Nat) : Int) := by
          rw [Int.natCast_mul, Int.natCast_add]
          show _ = (i : Int) * ((n : Int) + 1)
          omega
        have e2 : ((i * (n + 1) : Nat) : Int) + (n : Int) + 1 = ((i * (n + 1) + (n + 1) : Nat) : Int) := by omega
        have hle : i * (n + 1) + (n + 1) ≤ T.flatten.length := by
          rw [hfl, ← Nat.succ_mul]
          exact Nat.mul_le_mul_right _ hlt
        refine ⟨rfl, _, rfl, _, rfl, _, rfl, _, rfl, _, rfl, _, _, rfl, rfl, _, _, rfl, rfl, _, rfl, a, _, rfl, sm.seq hF, fun o no => ?_⟩
        rw [e1, e2, cut_piece _ _ _ (by omega) hle, Nat.add_sub_cancel_left, piece hR hti]
        have s3 : Same H2 (upd H2 o (.lst (vn t))) := same_upd no
        have hDo : D ≠ o := ne_of_none hDs no
        refine ⟨as.map V.ref, ?_, ?_, ?_⟩
        · rw [upd_ne hDo]
          exact hDs
        · have hTl : T.length ≤ 400 := Nat.le_trans (Nat.le_mul_of_pos_right _ (by omega)) (hfl ▸ hlen)
          rw [List.length_map]
          exact small1000 (by omega)
        · have hnew : ∀ b z, b ≠ D → (upd H2 o (.lst (vn t))) b = some z → (upd (upd H2 o (.lst (vn t))) D (.lst (as.map V.ref ++ [V.ref o]))) b = some z := fun b z hb e => by
            rw [upd_ne hb]
            exact e
          have sAll : Same H (upd (upd H2 o (.lst (vn t))) D (.lst (as.map V.ref ++ [V.ref o]))) := fun b z e => hnew b z (ne_of_none e hD) (s3 b z (sm b z e))
          refine ⟨sAll, as ++ [o], ?_, ?_, ?_⟩
          · rw [upd_same, List.map_append]
            rfl
          · rw [List.length_append, has]
            rfl
          · intro j b u hb hu
            rcases Nat.lt_or_ge j as.length with hj | hj
            · rw [List.getElem?_append_left hj] at hb
              obtain ⟨h1, h2⟩ := hall j b u hb hu
              exact ⟨h1, hnew b _ h1 (s3 b _ h2)⟩
            · rw [List.getElem?_append_right hj] at hb
              have e3 : j = i := by
                have := (List.getElem?_eq_some_iff.mp hb).1
                rw [List.length_singleton] at this
                omega
              subst e3
              rw [has, Nat.sub_self] at hb
              have e4 : o = b := Option.some.inj hb
              have e5 : t = u := Option.some.inj (hti.symm.trans hu)
              subst e4 e5
              exact ⟨hDo.symm, hnew o _ hDo.symm upd_same⟩
    · have e : i = T.length := by omega
      subst e
      exact .inl ⟨Nat.le_refl _, q H' D sm ⟨as, hDs, has, fun j b t hb ht => (hall j b t hb ht).2⟩⟩
/-! ### is_in_order -/
theorem scIo : FnScope ["terms", "k"] ["terms"] (defScope sIo) := ⟨rfl, rfl, rfl, by decide +kernel, rfl, by decide +kernel, by decide +kernel⟩
def spIo (K : PySem.W.Frag) : Sp := fun vs H Q _ => ∃ (a : Addr) (T : List (List Nat)) (n : Nat), vs = [.ref a] ∧ TAt K H a T ∧ Rows n T ∧ n ≤ 3 ∧ T.length ≤ 400 ∧ ∀ H' : Hp, Same H H' → Q (.bl (chain T)) H'
theorem ok_io {f fP : Addr} {fd fdP : FuncData} {k : Nat} (F : Fun K "is_in_order" "is_in_order" sIo f fd) (FP : Fun K "term_place" "term_place" sTp fP fdP) (bP : Binds K fdP ["term"] []) (gP : mg "term_place" = some (.ref fP)) (mr : mg "range" = none) (ml : mg "len" = none) (ms : mg "sum" = none) :
    FnOk P w K mg base CX0 (k + 1 + 1) f fd ["terms"] (spIo K) := by
  have GP : FnOk P w K mg base CX0 (k + 1) fP fdP ["term"] (spTp K) := ok_tp FP ms
  refine F.ok scIo (fun vs H Q E h => ?_) (fun cdv A outer s H vs Q E hr h => ?_)
  · obtain ⟨a, T, n, rfl, _⟩ := h
    rfl
  · obtain ⟨a, T, n, rfl, hT, hR, hn, hlen, q⟩ := h
    refine ⟨_, pss_cons (ps_for PassesOwn.never rfl (pi_range2 (by rfl) mr (pa_cons pe_int (pa_cons (pe_callB call_len_seq (by rfl) ml PySem.boot_len (pa_cons (pv 0) pa_nil)) pa_nil))) (pg_name (i := 1) scIo.nd rfl (.inl rfl))
        (pss_one (ps_if (pt_not (pt_cmpR (op_ltN hr.units) (pe_call GP hr (by rfl) gP FP.kp bP .nil pass0 (pa_cons (pe_ix ix_list (pv 0) (pe_op op_sub (pv 1) pe_int) (fun _ _ => rfl)) pa_nil))
          (pe_call GP hr (by rfl) gP FP.kp bP .nil pass0 (pa_cons (pe_ix ix_list (pv 0) (pv 1) (fun _ _ => rfl)) pa_nil)) (nomark _)))
          (pss_one (ps_ret pe_bl)) pss_nil)))
      (pss_one (ps_ret pe_bl)), ?_⟩
    obtain ⟨as, h1, h2, h3⟩ := hT
    have el : (as.map V.ref).length = T.length := by rw [List.length_map, h2]
    refine ⟨_, rfl, a, _, rfl, .inl h1, 1, (T.length : Int), by rw [el], ⟨by omega, by omega, by omega, by omega⟩, ?_⟩
    have en : ((T.length : Int) - 1).toNat = T.length - 1 := by omega
    rw [en]
    refine for_range (lo := 1) (n := T.length - 1) (fun i σ H' => (∃ v1, σ = [some (.ref a), v1]) ∧ Same H H' ∧ ∀ (j : Nat) (x y : List Nat), j < i → T[j]? = some x → T[j + 1]? = some y → Kzt1.before x.tail y.tail = true) ⟨⟨none, rfl⟩, Same.refl H, fun j x y hj => by omega⟩ ?_ ?_
    · rintro i σ H' hi ⟨⟨v1, rfl⟩, sm, hall⟩
      obtain ⟨x, hx⟩ : ∃ x, T[i]? = some x := ⟨T[i]'(by omega), List.getElem?_eq_getElem (by omega)⟩
      obtain ⟨y, hy⟩ : ∃ y, T[i + 1]? = some y := ⟨T[i + 1]'(by omega), List.getElem?_eq_getElem (by omega)⟩
      obtain ⟨b, hb⟩ := get_ex h2.symm hx
      obtain ⟨c, hc⟩ := get_ex h2.symm hy
      have hxl := hR x (List.mem_of_getElem? hx)
      have hyl := hR y (List.mem_of_getElem? hy)
      have ab : atI (as.map V.ref) ((1 : Int) + (i : Int) - 1) = some (V.ref b) := by
        rw [show (1 : Int) + (i : Int) - 1 = ((i : Nat) : Int) by omega]
        exact atI_nat (by rw [List.getElem?_map, hb]; rfl)
      have ac : atI (as.map V.ref) ((1 : Int) + (i : Int)) = some (V.ref c) := by
        rw [show (1 : Int) + (i : Int) = ((i + 1 : Nat) : Int) by omega]
        exact atI_nat (by rw [List.getElem?_map, hc]; rfl)
      refine ⟨_, rfl, _, rfl, _, _, rfl, rfl, a, _, _, _, rfl, rfl, sm.seq h1, ab, b, x, rfl, sm.seq (h3 i b x hb hx), by omega, fun H1 o1 sm1 e1 => ?_⟩
      have sH1 := sm.trans sm1
      refine ⟨_, rfl, _, rfl, a, _, _, _, rfl, rfl, sH1.seq h1, ac, c, y, rfl, sH1.seq (h3 (i + 1) c y hc hy), by omega, fun H2 o2 sm2 e2 => ?_⟩
      refine ⟨o1, o2, _, _, rfl, rfl, SqL.of (sm2 _ _ e1), SqL.of e2, _, rfl, ?_⟩
      have sH2 := sH1.trans sm2
      rw [rowLt_before (by rw [List.length_tail, List.length_tail]; omega)]
      cases hbf : Kzt1.before x.tail y.tail with
      | true =>
        refine ⟨⟨some (.int (1 + (i : Int))), rfl⟩, sH2, fun j x' y' hj hx' hy' => ?_⟩
        rcases Nat.lt_or_ge j i with h | h
        · exact hall j x' y' h hx' hy'
        · have ej : j = i := by omega
          subst ej
          rw [← Option.some.inj (hx.symm.trans hx'), ← Option.some.inj (hy.symm.trans hy')]
          exact hbf
      | false =>
        have ec : chain T = false := by
          cases z : chain T with
          | false => rfl
          | true =>
            rw [(chain_iff T).mp z i x y hx hy] at hbf
            cases hbf
        rw [ec] at q
        exact q H2 sH2
    · rintro σ H' ⟨⟨v1, rfl⟩, sm, hall⟩
      have ec : chain T = true := (chain_iff T).mpr fun i x y hx hy => hall i x y (by
        have := (List.getElem?_eq_some_iff.mp hy).1
        omega) hx hy
      rw [ec] at q
      exact q H' sm
/-! ### is_polynomial -/
theorem scIp : FnScope ["p", "n", "f", "terms", "term"] ["p", "n", "f"] (defScope sIp) := ⟨rfl, rfl, rfl, by decide +kernel, rfl, by decide +kernel, by decide +kernel⟩
def spIp (K : PySem.W.Frag) : Sp := fun vs H Q _ => ∃ (p n : Nat) (a : Addr) (l : List Nat), vs = [.int (p : Int), .int (n : Int), .ref a] ∧ SqL K H a (vn l) ∧ l.length ≤ 400 ∧ ∀ H' : Hp, Same H H' → Q (.bl (isP p n l)) H'
/-- the facts of the defs that is_polynomial calls -/
structure Low (K : PySem.W.Frag) (mg : Str → Option Value) (fIs fIt fIo fTp fCt aP : Addr) (dIs dIt dIo dTp dCt : FuncData) (tU tO : Tok) : Prop where
  FIs : Fun K "is_space" "is_space" sIs fIs dIs
  FIt : Fun K "is_term" "is_term" sIt fIt dIt
  FIo : Fun K "is_in_order" "is_in_order" sIo fIo dIo
  FTp : Fun K "term_place" "term_place" sTp fTp dTp
  FCt : Fun K "cut_terms" "cut_terms" sCt fCt dCt
  bIs : Binds K dIs ["p", "n"] []
  bIt : Binds K dIt ["p", "term"] []
  bIo : Binds K dIo ["terms"] []
  bTp : Binds K dTp ["term"] []
  bCt : Binds K dCt ["n", "f"] []
  gIs : mg "is_space" = some (.ref fIs)
  gIt : mg "is_term" = some (.ref fIt)
  gIo : mg "is_in_order" = some (.ref fIo)
  gTp : mg "term_place" = some (.ref fTp)
  gCt : mg "cut_terms" = some (.ref fCt)
  gP : mg "PRIMES" = some (.ref aP)
  hP : ∀ H : Hp, SqT K H aP [.int 2, .int 3, .int 5, .int 7]
  gU : mg "MOST_UNKNOWNS" = some (.int 3 tU)
  gO : mg "MOST_OFTEN" = some (.int 12 tO)
  mr : mg "range" = none
  ml : mg "len" = none
  ms : mg "sum" = none
  mm : mg "max" = none
theorem rows_of {n : Nat} {l : List Nat} (h : l.length % (n + 1) = 0) : ∃ T : List (List Nat), T.flatten = l ∧ Rows n T := by
  obtain ⟨T, e1, e2, _⟩ := rows_ex (n := n) (l.length / (n + 1)) l (by
    have := Nat.div_add_mod l.length (n + 1)
    rw [h, Nat.add_zero, Nat.mul_comm] at this
    exact this.symm)
  exact ⟨T, e1, e2⟩
theorem ok_ip {f fIs fIt fIo fTp fCt aP : Addr} {fd dIs dIt dIo dTp dCt : FuncData} {tU tO : Tok} {k : Nat} (F : Fun K "is_polynomial" "is_polynomial" sIp f fd) (L : Low K mg fIs fIt fIo fTp fCt aP dIs dIt dIo dTp dCt tU tO) :
    FnOk P w K mg base CX0 (k + 1 + 1 + 1) f fd ["p", "n", "f"] (spIp K) := by
  have GIs : FnOk P w K mg base CX0 (k + 1 + 1) fIs dIs ["p", "n"] spIs := ok_is L.FIs L.gP L.hP L.gU
  have GIt : FnOk P w K mg base CX0 (k + 1 + 1) fIt dIt ["p", "term"] (spIt K) := ok_it L.FIt L.mm L.gO
  have GIo : FnOk P w K mg base CX0 (k + 1 + 1) fIo dIo ["terms"] (spIo K) := ok_io L.FIo L.FTp L.bTp L.gTp L.mr L.ml L.ms
  have GCt : FnOk P w K mg base CX0 (k + 1 + 1) fCt dCt ["n", "f"] (spCt K) := ok_ct L.FCt L.mr L.ml
  refine F.ok scIp (fun vs H Q E h => ?_) (fun cdv A outer s H vs Q E hr h => ?_)
  · obtain ⟨p, n, a, l, rfl, _⟩ := h
    rfl
  · obtain ⟨p, n, a, l, rfl, hF, hlen, q⟩ := h
    refine ⟨_, pss_cons (ps_if (PW.pt (pw_or (pt_not (pt_val (pe_call GIs hr (by rfl) L.gIs L.FIs.kp L.bIs .nil pass0 (pa_cons (pv 0) (pa_cons (pv 1) pa_nil)))))
          (pw_or1 (pt_cmpR op_ne (pe_op op_mod (pe_callB call_len_seq (by rfl) L.ml PySem.boot_len (pa_cons (pv 2) pa_nil)) (pe_op op_add (pv 1) pe_int)) pe_int (nomark _)))))
        (pss_one (ps_ret pe_bl)) pss_nil)
      (pss_cons (ps_set (i := 3) scIp.nd rfl (.inl rfl) (pe_call GCt hr (by rfl) L.gCt L.FCt.kp L.bCt .nil pass0 (pa_cons (pv 1) (pa_cons (pv 2) pa_nil))))
      (pss_cons (ps_for PassesOwn.never rfl (pi_list (pv 3)) (pg_name (i := 4) scIp.nd rfl (.inl rfl))
        (pss_one (ps_if (pt_not (pt_val (pe_call GIt hr (by rfl) L.gIt L.FIt.kp L.bIt .nil pass0 (pa_cons (pv 0) (pa_cons (pv 4) pa_nil))))) (pss_one (ps_ret pe_bl)) pss_nil)))
      (pss_one (ps_ret (pe_call GIo hr (by rfl) L.gIo L.FIo.kp L.bIo .nil pass0 (pa_cons (pv 3) pa_nil)))))), ?_⟩
    refine ⟨_, rfl, _, rfl, p, n, rfl, _, rfl, ?_⟩
    cases ok : Kzt1.okField p n with
    | false =>
      rw [isP_field ok] at q
      exact q H (Same.refl H)
    | true =>
      obtain ⟨hn1, hn3⟩ := okField_n ok
      refine ⟨_, rfl, a, _, rfl, .inl hF, _, rfl, _, _, rfl, rfl, _, _, rfl, rfl, (by show (0 : Int) < (n : Int) + 1; omega), rfl, _, rfl, ?_⟩
      rw [vn_len]
      have em : ((l.length : Int) % ((n : Int) + 1)) = ((l.length % (n + 1) : Nat) : Int) := by
        rw [Int.natCast_emod, Int.natCast_add]
        rfl
      show (if (!decide (V.int ((l.length : Int) % ((n : Int) + 1)) = V.int 0)) = true then _ else _)
      rw [em]
      by_cases c : l.length % (n + 1) = 0
      · rw [c]
        refine iteNS rfl ?_
        obtain ⟨T, rfl, hR⟩ := rows_of c
        have hfl := flat_len hR
        have hTl : T.length ≤ 400 := Nat.le_trans (Nat.le_mul_of_pos_right _ (by omega)) (hfl ▸ hlen)
        refine ⟨_, rfl, _, rfl, n, a, T, rfl, hF, hR, hn3, hlen, fun H1 o s1 hTt => ?_⟩
        have hT : TAt K H1 o T := hTt.at_
        rw [isP_rows ok hR] at q
        obtain ⟨as, h1, h2, h3⟩ := id hT
        refine ⟨_, rfl, o, rfl, ⟨_, h1⟩, for_list (K := K) (a := o) (xs := as.map V.ref) (fun i σ H' => (∃ v4, σ = [some (.int (p : Int)), some (.int (n : Int)), some (.ref a), some (.ref o), v4]) ∧ Same H1 H' ∧ ∀ (j : Nat) (t : List Nat), j < i → T[j]? = some t → isT p t = true) ⟨⟨none, rfl⟩, Same.refl H1, fun j t hj => by omega⟩ (fun i σ H' _ ⟨_, sm, _⟩ => sm.seq h1) ?_ ?_⟩
        · rintro i y σ H' hi ⟨⟨v4, rfl⟩, sm, hall⟩
          obtain ⟨b, hb, rfl⟩ := map_get hi
          obtain ⟨t, ht⟩ := get_ex h2 hb
          have htl := hR t (List.mem_of_getElem? ht)
          refine ⟨_, rfl, _, rfl, p, b, t, rfl, sm.seq (h3 i b t hb ht), by omega, fun H2 sm2 => ⟨_, rfl, ?_⟩⟩
          cases hv : isT p t with
          | true =>
            refine ⟨⟨some (.ref b), rfl⟩, sm.trans sm2, fun j t' hj ht' => ?_⟩
            rcases Nat.lt_or_ge j i with h | h
            · exact hall j t' h ht'
            · have ej : j = i := by omega
              subst ej
              rw [← Option.some.inj (ht.symm.trans ht')]
              exact hv
          | false =>
            have ea : okRow p T = false := by
              rw [okRow]
              have : T.all (isT p) = false := by
                rw [List.all_eq_false]
                exact ⟨t, List.mem_of_getElem? ht, by rw [hv]; exact Bool.false_ne_true⟩
              rw [this, Bool.false_and]
            rw [ea] at q
            exact q H2 (s1.trans (sm.trans sm2))
        · rintro σ H' ⟨⟨v4, rfl⟩, sm, hall⟩
          rw [List.length_map, h2] at hall
          have ea : okRow p T = chain T := by
            have : T.all (isT p) = true := List.all_eq_true.mpr fun t ht => by
              obtain ⟨j, hj⟩ := List.getElem?_of_mem ht
              exact hall j t (List.getElem?_eq_some_iff.mp hj).1 hj
            rw [okRow, this, Bool.true_and]
          rw [ea] at q
          exact ⟨_, rfl, o, T, n, rfl, hT.same sm, hR, hn3, hTl, fun H2 sm2 => q H2 (s1.trans (sm.trans sm2))⟩
      · rw [isP_mod c] at q
        have en : decide (V.int ((l.length % (n + 1) : Nat) : Int) = V.int 0) = false := decide_eq_false fun z => c (by
          have := V.int.inj z
          omega)
        rw [en]
        exact q H (Same.refl H)
end
end Nz
namespace Nz
open PySem PySem.Spec PyProof.Rows L2
abbrev sJr : Stmt := topS 14
section
variable {P : Program} {w : World} {K : PySem.W.Frag} {mg : Str → Option Value} {base : Heap}
/-! ### joined_row -/
theorem scJr : FnScope ["terms", "row", "term"] ["terms"] (defScope sJr) := ⟨rfl, rfl, rfl, by decide +kernel, rfl, by decide +kernel, by decide +kernel⟩
def spJr : Sp := fun vs H Q _ => ∃ (a : Addr) (T : List (List Nat)) (n : Nat), vs = [.ref a] ∧ TTr H a T ∧ Rows n T ∧ n ≤ 3 ∧ T.length ≤ 100000 ∧ ∀ (H' : Hp) (o : Addr), Same H H' → H' o = some (.lst (vn T.flatten)) → Q (.ref o) H'
theorem flat_take {n : Nat} {T : List (List Nat)} (hR : Rows n T) (i : Nat) : (T.take i).flatten.length ≤ T.length * (n + 1) := by
  have h : Rows n (T.take i) := fun t ht => hR t (List.mem_of_mem_take ht)
  rw [flat_len h]
  exact Nat.mul_le_mul_right _ (List.length_take_le' i T)
theorem line_big : 1000000 < sizeLine := by decide
theorem ok_jr {f : Addr} {fd : FuncData} {k : Nat} (F : Fun K "joined_row" "joined_row" sJr f fd) : FnOk P w K mg base CX0 (k + 1) f fd ["terms"] spJr := by
  refine F.ok scJr (fun vs H Q E h => ?_) (fun cdv A outer s H vs Q E hr h => ?_)
  · obtain ⟨a, T, n, rfl, _⟩ := h
    rfl
  · obtain ⟨a, T, n, rfl, hT, hR, hn, hlen, q⟩ := h
    refine ⟨_, pss_cons (ps_set (i := 1) scJr.nd rfl (.inl rfl) (pe_lst pa_nil))
      (pss_cons (ps_for PassesOwn.never rfl (pi_list (pv 0)) (pg_name (i := 2) scJr.nd rfl (.inl rfl))
        (pss_one (ps_expr (pe_bm PySem.F.plainAttrs_list PySem.F.slot_list_extend PySem.F.type_list_extend mt_extend (pv 1) (pa_cons (pv 2) pa_nil)))))
      (pss_one (ps_ret (pv 1)))), ?_⟩
    obtain ⟨as, h1, h2, h3⟩ := hT
    refine ⟨Nat.zero_le _, fun o no => ?_⟩
    have s1 := same_upd (o := .lst []) no
    refine ⟨_, rfl, a, rfl, ⟨_, SqL.of (s1 _ _ h1)⟩, for_list (K := K) (a := a) (xs := as.map V.ref) (fun i σ H' => (∃ v2, σ = [some (.ref a), some (.ref o), v2]) ∧ Same H H' ∧ H' o = some (.lst (vn (T.take i).flatten))) ⟨⟨none, rfl⟩, s1, upd_same⟩ (fun i σ H' _ ⟨_, sm, _⟩ => SqL.of (sm _ _ h1)) ?_ ?_⟩
    · rintro i y σ H' hi ⟨⟨v2, rfl⟩, sm, ho⟩
      obtain ⟨c, hc, rfl⟩ := map_get hi
      obtain ⟨t, hti⟩ := get_ex h2 hc
      have htl := hR t (List.mem_of_getElem? hti)
      have hb := sm _ _ (h3 i c t hc hti)
      refine ⟨_, rfl, .inl ⟨rfl, _, SqL.of ho⟩, _, rfl, o, c, _, _, rfl, rfl, ho, hb, ?_, ⟨some (.ref c), rfl⟩, fun b z e => ?_, ?_⟩
      · have h4 := flat_take hR i
        have h5 : T.length * (n + 1) ≤ 100000 * 4 := Nat.mul_le_mul hlen (by omega)
        have h6 := line_big
        rw [vn_len, vn_len]
        omega
      · rw [upd_ne (ne_of_none e no)]
        exact sm b z e
      · rw [upd_same, take_more hti, List.flatten_append, vn_app]
        simp
    · rintro σ H' ⟨⟨v2, rfl⟩, sm, ho⟩
      rw [List.length_map, h2, List.take_length] at ho
      exact ⟨_, rfl, q H' o sm ho⟩
end
end Nz
namespace Nz
open PySem PySem.Spec PyProof.Rows L2
abbrev sCr : Stmt := topS 13
section
variable {P : Program} {w : World} {K : PySem.W.Frag} {mg : Str → Option Value} {base : Heap}
/-! ### counted_row -/
theorem scCr : FnScope ["terms"] ["terms"] (defScope sCr) := ⟨rfl, rfl, rfl, by decide +kernel, rfl, by decide +kernel, by decide +kernel⟩
def spCr : Sp := fun vs H Q _ => ∃ (a : Addr) (T : List (List Nat)) (n : Nat), vs = [.ref a] ∧ TTr H a T ∧ Rows n T ∧ n ≤ 3 ∧ T.length ≤ 100000 ∧ ∀ (H' : Hp) (o : Addr), Same H H' → H' o = some (.lst (V.int (T.length : Nat) :: vn T.flatten)) → Q (.ref o) H'
theorem ok_cr {f fJ : Addr} {fd dJ : FuncData} {k : Nat} (F : Fun K "counted_row" "counted_row" sCr f fd) (FJ : Fun K "joined_row" "joined_row" sJr fJ dJ) (bJ : Binds K dJ ["terms"] []) (gJ : mg "joined_row" = some (.ref fJ)) (ml : mg "len" = none) : FnOk P w K mg base CX0 (k + 1 + 1) f fd ["terms"] spCr := by
  have GJ : FnOk P w K mg base CX0 (k + 1) fJ dJ ["terms"] spJr := ok_jr FJ
  refine F.ok scCr (fun vs H Q E h => ?_) (fun cdv A outer s H vs Q E hr h => ?_)
  · obtain ⟨a, T, n, rfl, _⟩ := h
    rfl
  · obtain ⟨a, T, n, rfl, hT, hR, hn, hlen, q⟩ := h
    refine ⟨_, pss_one (ps_ret (pe_op op_cat (pe_lst (pa_cons (pe_callB call_len_seq (by rfl) ml PySem.boot_len (pa_cons (pv 0) pa_nil)) pa_nil)) (pe_call GJ hr (by rfl) gJ FJ.kp bJ .nil pass0 (pa_cons (pv 0) pa_nil)))), ?_⟩
    obtain ⟨as, h1, h2, h3⟩ := id hT
    refine ⟨_, rfl, a, _, rfl, .inl (SqL.of h1), (by show 1 ≤ sizeLine; decide), fun o no => ?_⟩
    rw [List.length_map, h2]
    have s1 := same_upd (o := .lst [V.int (T.length : Nat)]) no
    refine ⟨_, rfl, a, T, n, rfl, hT.same s1, hR, hn, hlen, fun H2 o2 s2 ho2 => ?_⟩
    refine ⟨o, o2, _, _, rfl, rfl, s2 _ _ upd_same, ho2, ?_, fun o3 n3 => q _ o3 ((s1.trans s2).trans (same_upd n3)) ?_⟩
    · have h5 : T.length * (n + 1) ≤ 100000 * 4 := Nat.mul_le_mul hlen (by omega)
      have h6 := line_big
      rw [vn_len, flat_len hR]
      show 1 + T.length * (n + 1) ≤ sizeLine
      omega
    · rw [upd_same]
      rfl
end
end Nz
namespace Nz
open PySem PySem.Spec PyProof.Rows L2
abbrev sJt : Stmt := topS 12
section
variable {P : Program} {w : World} {K : PySem.W.Frag} {mg : Str → Option Value} {base : Heap}
/-! ### a dict of factors, its keys tuples of ints -/
def kY (e : List Nat) : List Key := e.map fun x : Nat => Sum.inl (x : Int)
def kvOf (d : Fd) : List (List Key × V) := d.map fun x => (kY x.1, V.int (x.2 : Int))
theorem kY_vn (e : List Nat) : (kY e).map kV = vn e := by
  rw [kY, vn, natI, List.map_map, List.map_map]
  rfl
theorem kY_inj {a b : List Nat} (h : kY a = kY b) : a = b := vn_inj (by rw [← kY_vn, ← kY_vn, h])
theorem kv_get (e : List Nat) : ∀ d : Fd, valV (kvOf d) (kY e) = (getF d e).map fun c => V.int (c : Int)
  | [] => rfl
  | x :: d => by
    rw [getF_cons]
    show valV ((kY x.1, V.int (x.2 : Int)) :: kvOf d) (kY e) = _
    by_cases h : x.1 = e
    · rw [valV_pos (p := (kY x.1, V.int (x.2 : Int))) (by rw [h]), if_pos h]
      rfl
    · rw [valV_neg (p := (kY x.1, V.int (x.2 : Int))) (fun z => h (kY_inj z)), if_neg h, kv_get e d]
theorem kv_any (d : Fd) (e : List Nat) : ((kvOf d).any fun kv => decide (kv.1 = kY e)) = d.any fun x => decide (x.1 = e) := by
  rw [kvOf, List.any_map]
  congr 1
  funext x
  exact decide_eq_decide.mpr ⟨fun z => kY_inj z, fun z => congrArg kY z⟩
theorem kv_put (d : Fd) (e : List Nat) (c : Nat) : putK (kvOf d) (kY e) (V.int (c : Int)) = kvOf (putF d e c) := by
  unfold putK putF
  rw [kv_any]
  by_cases h : (d.any fun x => decide (x.1 = e)) = true
  · rw [if_pos h, if_pos h, kvOf, kvOf, List.map_map, List.map_map]
    apply List.map_congr_left
    intro x _
    show (if kY x.1 = kY e then (kY x.1, V.int (c : Int)) else (kY x.1, V.int (x.2 : Int))) = (kY (if x.1 = e then (x.1, c) else x).1, V.int ((if x.1 = e then (x.1, c) else x).2 : Int))
    by_cases z : x.1 = e
    · rw [if_pos (by rw [z]), if_pos z]
    · rw [if_neg (fun y => z (kY_inj y)), if_neg z]
  · rw [if_neg h, if_neg h, kvOf, kvOf, List.map_append]
    rfl
theorem kv_len (d : Fd) : (kvOf d).length = d.length := List.length_map ..
theorem getF_mem {d : Fd} {x : List Nat × Nat} (hd : Keys1 d) (hx : x ∈ d) : getF d x.1 = some x.2 := by
  induction d with
  | nil => cases hx
  | cons y d ih =>
    have h1 := List.nodup_cons.mp (show (y.1 :: d.map (·.1)).Nodup from hd)
    rw [getF_cons]
    rcases List.mem_cons.mp hx with rfl | hx
    · rw [if_pos rfl]
    · rw [if_neg (fun z => h1.1 (by rw [z]; exact List.mem_map_of_mem hx))]
      exact ih h1.2 hx
theorem kept_more {d : Fd} {i : Nat} {x : List Nat × Nat} (h : d[i]? = some x) : kept (d.take (i + 1)) = if x.2 = 0 then kept (d.take i) else kept (d.take i) ++ [x.2 :: x.1] := by
  rw [take_more h, kept, kept, List.filter_append, List.map_append]
  by_cases z : x.2 = 0
  · rw [if_pos z]
    simp [z]
  · rw [if_neg z]
    simp [z]
theorem kept_len (d : Fd) : (kept d).length ≤ d.length := by
  rw [kept, List.length_map]
  exact List.length_filter_le _ _
def rListOf (K : PySem.W.Frag) : List V → Hp → VK → Prop := fun xs H Q => ∃ p ys, xs = [.ref p] ∧ (SqL K H p ys ∨ SqT K H p ys) ∧ ∀ l, H l = none → Q (.ref l) (upd H l (.lst ys))
theorem call_lst {X : Cx} : CallR X (.type "list") (rListOf X.K) := call_list_of
/-! ### joined_terms -/
theorem scJt : FnScope ["p", "terms", "factors", "term", "unknowns", "kept"] ["p", "terms"] (defScope sJt) := ⟨rfl, rfl, rfl, by decide +kernel, rfl, by decide +kernel, by decide +kernel⟩
def spJt (K : PySem.W.Frag) : Sp := fun vs H Q _ => ∃ (p : Nat) (a : Addr) (T : List (List Nat)) (n : Nat), vs = [.int (p : Int), .ref a] ∧ TAt K H a T ∧ Rows n T ∧ n ≤ 3 ∧ T.length ≤ 100000 ∧ 1 < p ∧ p ≤ 7 ∧
  ∀ (H' : Hp) (o : Addr) (G : List (List Nat)), Same H H' → TTr H' o G → Rows n G → G.length ≤ T.length → G.map tm = Kzt1.norm p (T.map tm) → Q (.ref o) H'
theorem key_tp (X : Cx) (T : List (List Nat)) (h : ∀ t ∈ T, t.length ≤ 1000) : KeyDef X T plc (spTp X.K) := fun b t H Q E ht hb q => ⟨b, t, rfl, hb, h t ht, q⟩
theorem ok_jt {f fP : Addr} {fd fdP : FuncData} {k : Nat} (F : Fun K "joined_terms" "joined_terms" sJt f fd) (FP : Fun K "term_place" "term_place" sTp fP fdP) (bP : Binds K fdP ["term"] []) (gP : mg "term_place" = some (.ref fP)) (ms : mg "sum" = none)
    (mt : mg "tuple" = none) (ml : mg "list" = none) (mo : mg "sorted" = none) :
    FnOk P w K mg base CX0 (k + 1 + 1 + 1 + 1) f fd ["p", "terms"] (spJt K) := by
  have GP : FnOk P w K mg base CX0 (k + 1) fP fdP ["term"] (spTp K) := ok_tp FP ms
  refine F.ok scJt (fun vs H Q E h => ?_) (fun cdv A outer s H vs Q E hr h => ?_)
  · obtain ⟨p, a, T, n, rfl, _⟩ := h
    rfl
  · obtain ⟨p, a, T, n, rfl, hT, hR, hn, hlen, hp1, hp7, q⟩ := h
    refine ⟨_, pss_cons (ps_set (i := 2) scJt.nd rfl (.inr rfl) pe_dnewT)
      (pss_cons (ps_for PassesOwn.never rfl (pi_list (pv 1)) (pg_name (i := 3) scJt.nd rfl (.inl rfl))
        (pss_cons (ps_set (i := 4) scJt.nd rfl (.inl rfl) (pe_callTy call_tuple_of (by rfl) mt (by decide +kernel) (pa_cons (pe_slice sl_list (pv 3) (po_some pe_int) po_none) pa_nil)))
        (pss_one (ps_dput (hu_of hr) (pv 2) (pv 4) (pe_op op_mod (pe_op op_add (pe_dget2 (hu_of hr) (pv 2) (pv 4) pe_int ⟨rfl, rfl, rfl, rfl⟩) (pe_ix ix_list (pv 3) pe_int (fun _ _ => rfl))) (pv 0)) rfl))))
      (pss_cons (ps_lock (ps_setLc (i := 5) (own := [("unknowns", 4)]) (g := gName 4) (te := tOp rCat (tLst (tCons (tDGet (tVar 2) (tVar 4)) tNil)) (tCB (rListOf K) (tCons (tVar 4) tNil))) rfl scJt.nd rfl rfl (sw_true rfl rfl rfl (by decide +kernel)) (pi_keys (pv 2))
        (blkOk_by (own := [("unknowns", 4)]) (N := ["p", "terms", "factors", "term", "unknowns", "kept"]) (sc := defScope sJt) (by decide +kernel))
        (fun _ _ _ _ _ => pg_name (i := 4) scJt.nd rfl (Or.inl rfl)) (fun _ _ _ _ _ => pts_one (pt_cmpR op_ne (pe_dget (hu_of hr) (pv 2) (pv 4) (fun _ _ => rfl)) pe_int (nomark _)))
        (fun _ _ _ _ _ => pe_op op_cat (pe_lst (pa_cons (pe_dget (hu_of hr) (pv 2) (pv 4) (fun _ _ => rfl)) pa_nil)) (pe_callTy (T := "list") call_lst (by rfl) ml (by decide +kernel) (pa_cons (pv 4) pa_nil)))))
      (pss_one (ps_ret (pe_callBK (cr_sortBy GP hr bP (key_tp _) plc_ne) (by rfl) mo (by decide +kernel) (pa_cons (pv 5) pa_nil) (pk_cons (pe_glob (v := .ref fP) rfl gP rfl) pk_nil)))))), ?_⟩
    obtain ⟨as, h1, h2, h3⟩ := hT
    refine fun d nd => ⟨_, rfl, a, rfl, ⟨_, (same_upd nd).seq h1⟩, for_list (K := K) (a := a) (xs := as.map V.ref) (fun i σ H' => (∃ v3 v4, σ = [some (.int (p : Int)), some (.ref a), some (.ref d), v3, v4, none]) ∧ Same H H' ∧ H' d = some (.dT (kvOf (fac p (T.take i))))) ⟨⟨none, none, rfl⟩, same_upd nd, upd_same⟩ (fun i σ H' _ ⟨_, sm, _⟩ => sm.seq h1) ?_ ?_⟩
    · rintro i y σ H' hi ⟨⟨v3, v4, rfl⟩, sm, hd⟩
      obtain ⟨c, hc, rfl⟩ := map_get hi
      obtain ⟨t, hti⟩ := get_ex h2 hc
      have htl := hR t (List.mem_of_getElem? hti)
      have hb := sm.seq (h3 i c t hc hti)
      obtain ⟨u, e, rfl⟩ : ∃ u e, t = u :: e := by
        cases t with
        | nil => simp at htl
        | cons u e => exact ⟨u, e, rfl⟩
      refine ⟨_, rfl, 1, rfl, c, _, rfl, hb, fun o1 n1 => ?_⟩
      rw [cut_tail]
      have s1 := same_upd (o := .lst (vn e)) n1
      refine ⟨o1, vn e, rfl, .inl ⟨SqL.of upd_same, fun o2 n2 => ?_⟩⟩
      have s2 := same_upd (o := .tup (vn e)) n2
      have s12 := s1.trans s2
      have hd2 := s12 _ _ hd
      have ht2 : (upd (upd H' o1 (.lst (vn e))) o2 (.tup (vn e))) o2 = some (.tup ((kY e).map kV)) := by
        rw [kY_vn]
        exact upd_same
      have hg : (valV (kvOf (fac p (T.take i))) (kY e)).getD (V.int 0) = V.int (((getF (fac p (T.take i)) e).getD 0 : Nat) : Int) := by
        rw [kv_get]
        cases getF (fac p (T.take i)) e <;> rfl
      have hl : (kvOf (fac p (T.take i))).length < sizeLine := by
        have h4 := fac_len p (T.take i)
        have h5 := List.length_take_le' i T
        have h6 := line_big
        rw [kv_len]
        omega
      refine ⟨_, rfl, d, rfl, .inr ⟨_, .inl hd2⟩, _, rfl, _, DGet.t hd2 ht2, _, rfl, c, _, 0, .int (u : Int), rfl, rfl, s12.seq hb, atI_nat (j := 0) rfl, _, _, hg, rfl, _, rfl, _, _, rfl, rfl, (by show (0 : Int) < p; omega), _, rfl, _, rfl, d, _, rfl, DPut.t hd2 ht2 hl, ⟨_, _, rfl⟩, fun b z hz => ?_, ?_⟩
      · rw [upd_ne (ne_of_none hz nd)]
        exact s12 _ _ (sm b z hz)
      · rw [upd_same, take_more hti, fac_snoc]
        show some (HO.dT (putK (kvOf (fac p (T.take i))) (kY e) (V.int (((((getF (fac p (T.take i)) e).getD 0 : Nat) : Int) + (u : Int)) % (p : Int))))) = some (HO.dT (kvOf (putF (fac p (T.take i)) e (((getF (fac p (T.take i)) e).getD 0 + u) % p))))
        rw [← kv_put, Int.natCast_emod, Int.natCast_add]
    · rintro σ H' ⟨⟨v3, v4, rfl⟩, sm, hd⟩
      rw [List.length_map, h2, List.take_length] at hd
      obtain ⟨Fd0, eF⟩ : ∃ Fd0, Fd0 = fac p T := ⟨_, rfl⟩
      rw [← eF] at hd
      have hnd : Keys1 Fd0 := by
        rw [eF]
        exact fac_nodup p T
      have hFl : Fd0.length ≤ T.length := by
        rw [eF]
        exact fac_len p T
      refine ⟨d, _, hd, trivial, fun od => ⟨_, rfl, d, od, rfl, .inr ⟨_, upd_same, fun D hD => ?_⟩⟩⟩
      have hDd : D ≠ d := (ne_of_none (H := upd H' d (.frz od (.dT (kvOf Fd0)))) upd_same hD).symm
      have hHD : H' D = none := by
        rw [upd_ne hDd] at hD
        exact hD
      refine lc_it (walk_keysT (d := d) (o := od) (kvs := kvOf Fd0)) (fun i H2 => H2 d = some (.frz od (.dT (kvOf Fd0))) ∧ (∀ b z, b ≠ d → H' b = some z → H2 b = some z) ∧ ∃ bs : List Addr, H2 D = some (.lst (bs.map V.ref)) ∧ bs.length = (kept (Fd0.take i)).length ∧ ∀ (j : Nat) (b : Addr) (t : List Nat), bs[j]? = some b → (kept (Fd0.take i))[j]? = some t → b ≠ D ∧ b ≠ d ∧ H2 b = some (.lst (vn t))) ?_ (fun i H2 _ h => h.1) ?_ ?_
      · refine ⟨?_, fun b z hb hz => ?_, [], upd_same, rfl, fun j b t hb => by simp at hb⟩
        · rw [upd_ne (Ne.symm hDd)]
          exact upd_same
        · rw [upd_ne (ne_of_none hz hHD), upd_ne hb]
          exact hz
      · rintro i x H2 H3 hi ⟨hfz, hk, bs, hbs, hbl, hall⟩ ⟨rfl, key, v, qa, hkv, rfl, hqa⟩
        obtain ⟨y, hy, ey⟩ := map_get (l := Fd0) hkv
        obtain ⟨rfl, rfl⟩ : key = kY y.1 ∧ v = V.int (y.2 : Int) := by
          cases ey
          exact ⟨rfl, rfl⟩
        have hget : valV (kvOf Fd0) (kY y.1) = some (V.int (y.2 : Int)) := by
          rw [kv_get, getF_mem hnd (List.mem_of_getElem? hy)]
          rfl
        have hdg : DGet H3 d (.ref qa) (some (V.int (y.2 : Int))) := .inr ⟨_, _, qa, .inr ⟨od, hfz⟩, rfl, hqa, hget.symm⟩
        refine ⟨rfl, _, rfl, _, rfl, d, _, rfl, hdg, rfl, _, rfl, ?_⟩
        rw [kept_more hy]
        by_cases hz : y.2 = 0
        · rw [hz, if_pos rfl]
          refine iteNS rfl ⟨hfz, hk, bs, hbs, hbl, hall⟩
        · have en : decide (V.int (y.2 : Int) = V.int 0) = false := decide_eq_false fun z => hz (by
            have := V.int.inj z
            omega)
          rw [en, if_neg hz]
          refine iteT ⟨_, rfl, _, rfl, d, _, rfl, hdg, (by show 1 ≤ sizeLine; decide), fun o1 n1 => ?_⟩
          have s1 := same_upd (o := .lst [V.int (y.2 : Int)]) n1
          refine ⟨_, rfl, qa, _, rfl, .inr (SqT.of (s1 _ _ hqa)), fun o2 n2 => ?_⟩
          rw [kY_vn]
          have s2 := same_upd (o := .lst (vn y.1)) n2
          refine ⟨o1, o2, _, _, rfl, rfl, s2 _ _ upd_same, upd_same, ?_, fun o3 n3 => ?_⟩
          · rw [vn_len]
            have h4 : y.1.length = n := by
              rw [eF] at hy
              exact fac_keys hR y (List.mem_of_getElem? hy)
            show 1 + y.1.length ≤ sizeLine
            exact Nat.le_of_lt (small1000 (by omega))
          · have s3 := same_upd (o := .lst ([V.int (y.2 : Int)] ++ vn y.1)) n3
            have sA := (s1.trans s2).trans s3
            have hD3 := sA _ _ hbs
            have hDo : o3 ≠ D := (ne_of_none ((s1.trans s2) _ _ hbs) n3).symm
            have hdo : o3 ≠ d := (ne_of_none ((s1.trans s2) _ _ hfz) n3).symm
            refine ⟨_, hD3, ?_, ?_, fun b z hb hz2 => ?_, bs ++ [o3], ?_, ?_, fun j b t hb ht => ?_⟩
            · have h4 := kept_len (Fd0.take i)
              have h5 := List.length_take_le' i Fd0
              have h6 := line_big
              rw [List.length_map]
              omega
            · rw [upd_ne (Ne.symm hDd)]
              exact sA _ _ hfz
            · rw [upd_ne (ne_of_none hz2 hHD)]
              exact sA _ _ (hk b z hb hz2)
            · rw [upd_same, List.map_append]
              rfl
            · rw [List.length_append, List.length_append, hbl]
              rfl
            · rcases Nat.lt_or_ge j bs.length with hj | hj
              · rw [List.getElem?_append_left hj] at hb
                rw [List.getElem?_append_left (by omega)] at ht
                obtain ⟨g1, g2, g3⟩ := hall j b t hb ht
                refine ⟨g1, g2, ?_⟩
                rw [upd_ne g1]
                exact sA _ _ g3
              · rw [List.getElem?_append_right hj] at hb
                have e3 : j = bs.length := by
                  have := (List.getElem?_eq_some_iff.mp hb).1
                  rw [List.length_singleton] at this
                  omega
                rw [List.getElem?_append_right (by omega)] at ht
                rw [e3, Nat.sub_self] at hb
                rw [e3, hbl, Nat.sub_self] at ht
                rw [← show o3 = b from Option.some.inj hb, ← show y.2 :: y.1 = t from Option.some.inj ht]
                refine ⟨hDo, hdo, ?_⟩
                rw [upd_ne hDo]
                exact upd_same
      · rintro H2 ⟨hfz, hk, bs, hbs, hbl, hall⟩
        rw [kv_len, List.take_length] at hbl hall
        refine ⟨hfz, _, rfl, D, bs, kept Fd0, rfl, rfl, SqL.of ?_, hbl, fun j b t hb ht => SqL.of ?_, fun t ht => ?_, fun H3 o s3 ho => ?_⟩
        · rw [upd_ne hDd]
          exact hbs
        · obtain ⟨g1, g2, g3⟩ := hall j b t hb ht
          rw [upd_ne g2]
          exact g3
        · obtain ⟨x, hx, _, rfl⟩ := kept_mem ht
          rw [eF] at hx
          rw [List.length_cons, fac_keys hR x hx]
          omega
        · have hRk : Rows n (kept Fd0) := fun t ht => by
            obtain ⟨x, hx, _, rfl⟩ := kept_mem ht
            rw [eF] at hx
            rw [List.length_cons, fac_keys hR x hx]
          obtain ⟨G, hG, hperm, hpw⟩ := sorted_rows (H := H3) hRk hbl (fun j b t hb ht => by
            obtain ⟨g1, g2, g3⟩ := hall j b t hb ht
            refine s3 _ _ ?_
            rw [upd_ne g2]
            exact g3) ho
          rw [eF] at hperm
          obtain ⟨e1, e2⟩ := joined_is (by omega) hR hperm hpw
          refine q H3 o G (fun b z hz => s3 _ _ ?_) hG e2 ?_ e1
          · rw [upd_ne (ne_of_none hz nd)]
            exact hk b z (ne_of_none hz nd) (sm b z hz)
          · have h4 := kept_len (fac p T)
            have h5 := fac_len p T
            rw [hperm.length_eq]
            omega
end
end Nz
namespace Nz
open PySem PySem.Spec PyProof.Rows L2
section
variable {P : Program} {w : World} {K : PySem.W.Frag} {mg : Str → Option Value} {base : Heap}
/-- the facts of the defs that reduced, plus and times call besides -/
structure Jn (K : PySem.W.Frag) (mg : Str → Option Value) (fIp fJt fCr fJr : Addr) (dIp dJt dCr dJr : FuncData) (tN : Tok) : Prop where
  FIp : Fun K "is_polynomial" "is_polynomial" sIp fIp dIp
  FJt : Fun K "joined_terms" "joined_terms" sJt fJt dJt
  FCr : Fun K "counted_row" "counted_row" sCr fCr dCr
  FJr : Fun K "joined_row" "joined_row" sJr fJr dJr
  bIp : Binds K dIp ["p", "n", "f"] []
  bJt : Binds K dJt ["p", "terms"] []
  bCr : Binds K dCr ["terms"] []
  bJr : Binds K dJr ["terms"] []
  gIp : mg "is_polynomial" = some (.ref fIp)
  gJt : mg "joined_terms" = some (.ref fJt)
  gCr : mg "counted_row" = some (.ref fCr)
  gJr : mg "joined_row" = some (.ref fJr)
  gN : mg "NOT_AS_TOLD" = some (.int (-22) tN)
  mtu : mg "tuple" = none
  mli : mg "list" = none
  mso : mg "sorted" = none
/-- what is told of a list of terms -/
theorem told_rows {n : Nat} {G : List (List Nat)} (h : Rows n G) : (Kzt1.tell (G.map tm)).value :: (Kzt1.tell (G.map tm)).nums = (G.length : Int) :: natI G.flatten := by
  rw [Kzt1.tell, written_rows h, List.length_map]
  rfl
theorem rows_few {n : Nat} {T : List (List Nat)} (hR : Rows n T) (hl : T.flatten.length ≤ 400) : T.length ≤ 400 := by
  have h := flat_len hR
  have h2 : T.length ≤ T.length * (n + 1) := Nat.le_mul_of_pos_right _ (by omega)
  omega
end
end Nz
namespace Nz
open PySem PySem.Spec PyProof.Rows L2
abbrev sPl : Stmt := topS 5
section
variable {P : Program} {w : World} {K : PySem.W.Frag} {mg : Str → Option Value} {base : Heap}
/-! ### what is due of plus -/
theorem due_plus (p n : Nat) (l r : List Nat) : PyKzt1.plus p n (natI l) (natI r) = (Kzt1.answer (.plus p n l r)).value :: (Kzt1.answer (.plus p n l r)).nums := by
  show (Kzt1.answer (.plus (p : Int).toNat (n : Int).toNat (Kzt1Neutral.natsOf (natI l)) (Kzt1Neutral.natsOf (natI r)))).value :: (Kzt1.answer (.plus (p : Int).toNat (n : Int).toNat (Kzt1Neutral.natsOf (natI l)) (Kzt1Neutral.natsOf (natI r)))).nums = _
  rw [nats_natI, nats_natI, Int.toNat_natCast, Int.toNat_natCast]
theorem due_plus_no1 {p n : Nat} {l r : List Nat} (h : isP p n l = false) : PyKzt1.plus p n (natI l) (natI r) = [-22] := by
  rw [due_plus, show Kzt1.answer (.plus p n l r) = Kzt1.say (-22) from due_refused h _]
  rfl
theorem poly_none {p n : Nat} {l : List Nat} (ok : Kzt1.okField p n = true) (h : isP p n l = false) : Kzt1.readPoly p n l = none := by
  rw [isP, ok, Bool.true_and] at h
  cases e : Kzt1.readPoly p n l with
  | none => rfl
  | some f =>
    rw [e] at h
    cases h
theorem due_plus_no2 {p n : Nat} {l r : List Nat} {f : List Kzt1.Term} (ok : Kzt1.okField p n = true) (hl : Kzt1.readPoly p n l = some f) (h : isP p n r = false) : PyKzt1.plus p n (natI l) (natI r) = [-22] := by
  have e : Kzt1.answer (.plus p n l r) = Kzt1.say (-22) := by
    refine (due_taken ok hl _).trans ?_
    rw [Kzt1.withPoly, poly_none ok h]
  rw [due_plus, e]
  rfl
theorem due_plus_yes {p n : Nat} {T U G : List (List Nat)} (ok : Kzt1.okField p n = true) (h1 : Kzt1.readPoly p n T.flatten = some (T.map tm)) (h2 : Kzt1.readPoly p n U.flatten = some (U.map tm)) (hG : Rows n G) (e : G.map tm = Kzt1.norm p ((T ++ U).map tm)) :
    PyKzt1.plus p n (natI T.flatten) (natI U.flatten) = (G.length : Int) :: natI G.flatten := by
  have e2 : Kzt1.answer (.plus p n T.flatten U.flatten) = Kzt1.tell (G.map tm) := by
    refine (due_taken ok h1 _).trans ?_
    rw [Kzt1.withPoly, h2]
    show Kzt1.tell (Kzt1.plus p (T.map tm) (U.map tm)) = _
    rw [e, Kzt1.plus, List.map_append]
  rw [due_plus, e2]
  exact told_rows hG
/-! ### plus -/
theorem scPl : FnScope ["p", "n", "f", "g"] ["p", "n", "f", "g"] (defScope sPl) := ⟨rfl, rfl, rfl, by decide +kernel, rfl, by decide +kernel, by decide +kernel⟩
def spPl (K : PySem.W.Frag) : Sp := fun vs H Q _ => ∃ (p n : Nat) (a : Addr) (l : List Nat) (b : Addr) (r : List Nat), vs = [.int (p : Int), .int (n : Int), .ref a, .ref b] ∧ SqL K H a (vn l) ∧ l.length ≤ 400 ∧ SqL K H b (vn r) ∧ r.length ≤ 400 ∧
  ∀ (H' : Hp) (o : Addr), H' o = some (.lst ((PyKzt1.plus p n (natI l) (natI r)).map V.int)) → Q (.ref o) H'
theorem ok_pl {f fIs fIt fIo fTp fCt aP fIp fJt fCr fJr : Addr} {fd dIs dIt dIo dTp dCt dIp dJt dCr dJr : FuncData} {tU tO tN : Tok} (F : Fun K "plus" "plus" sPl f fd) (L : Low K mg fIs fIt fIo fTp fCt aP dIs dIt dIo dTp dCt tU tO) (W : Jn K mg fIp fJt fCr fJr dIp dJt dCr dJr tN) :
    FnOk P w K mg base CX0 5 f fd ["p", "n", "f", "g"] (spPl K) := by
  have GIp : FnOk P w K mg base CX0 4 fIp dIp ["p", "n", "f"] (spIp K) := ok_ip W.FIp L
  have GCt : FnOk P w K mg base CX0 4 fCt dCt ["n", "f"] (spCt K) := ok_ct L.FCt L.mr L.ml
  have GJt : FnOk P w K mg base CX0 4 fJt dJt ["p", "terms"] (spJt K) := ok_jt W.FJt L.FTp L.bTp L.gTp L.ms W.mtu W.mli W.mso
  have GCr : FnOk P w K mg base CX0 4 fCr dCr ["terms"] spCr := ok_cr W.FCr W.FJr W.bJr W.gJr L.ml
  refine F.ok scPl (fun vs H Q E h => ?_) (fun cdv A outer s H vs Q E hr h => ?_)
  · obtain ⟨p, n, a, l, b, r, rfl, _⟩ := h
    rfl
  · obtain ⟨p, n, a, l, b, r, rfl, hF, hlen, hB, hlenr, q⟩ := h
    refine ⟨_, pss_cons (ps_if (PW.pt (pw_or (pt_not (pt_val (pe_call GIp hr (by rfl) W.gIp W.FIp.kp W.bIp .nil pass0 (pa_cons (pv 0) (pa_cons (pv 1) (pa_cons (pv 2) pa_nil))))))
        (pw_or1 (pt_not (pt_val (pe_call GIp hr (by rfl) W.gIp W.FIp.kp W.bIp .nil pass0 (pa_cons (pv 0) (pa_cons (pv 1) (pa_cons (pv 3) pa_nil)))))))))
        (pss_one (ps_ret (pe_lst (pa_cons (pe_glob (v := .int (-22)) rfl W.gN ⟨_, rfl⟩) pa_nil)))) pss_nil)
      (pss_one (ps_ret (pe_call GCr hr (by rfl) W.gCr W.FCr.kp W.bCr .nil pass0 (pa_cons (pe_call GJt hr (by rfl) W.gJt W.FJt.kp W.bJt .nil pass0 (pa_cons (pv 0) (pa_cons
        (pe_op op_cat (pe_call GCt hr (by rfl) L.gCt L.FCt.kp L.bCt .nil pass0 (pa_cons (pv 1) (pa_cons (pv 2) pa_nil))) (pe_call GCt hr (by rfl) L.gCt L.FCt.kp L.bCt .nil pass0 (pa_cons (pv 1) (pa_cons (pv 3) pa_nil)))) pa_nil))) pa_nil)))), ?_⟩
    refine ⟨_, rfl, _, rfl, _, rfl, p, n, a, l, rfl, hF, hlen, fun H1 s1 => ⟨_, rfl, ?_⟩⟩
    cases hP : isP p n l with
    | false =>
      rw [due_plus_no1 hP] at q
      refine ⟨(by show 1 ≤ sizeLine; decide), fun o no => ?_⟩
      exact q _ o upd_same
    | true =>
      obtain ⟨ok, T, rfl, hR, hT, hrd⟩ := isP_ex hP
      refine ⟨_, rfl, _, rfl, _, rfl, p, n, b, r, rfl, s1.seq hB, hlenr, fun H2 s2 => ⟨_, rfl, ?_⟩⟩
      cases hP2 : isP p n r with
      | false =>
        rw [due_plus_no2 ok hrd hP2] at q
        refine ⟨(by show 1 ≤ sizeLine; decide), fun o no => ?_⟩
        exact q _ o upd_same
      | true =>
        obtain ⟨_, U, rfl, hS, hU, hrd2⟩ := isP_ex hP2
        obtain ⟨hp1, hp7⟩ := okField_p ok
        obtain ⟨hn1, hn3⟩ := okField_n ok
        have hfew := rows_few hR hlen
        have hfew2 := rows_few hS hlenr
        have s12 := s1.trans s2
        refine ⟨_, rfl, _, rfl, _, rfl, n, a, T, rfl, s12.seq hF, hR, hn3, hlen, fun H3 c s3 hTt => ⟨_, rfl, _, rfl, n, b, U, rfl, (s12.trans s3).seq hB, hS, hn3, hlenr, fun H4 d s4 hUt => ?_⟩⟩
        obtain ⟨as, h1, h2, h3⟩ := hTt.same s4
        obtain ⟨bs, g1, g2, g3⟩ := hUt
        refine ⟨c, d, _, _, rfl, rfl, h1, g1, ?_, fun o no => ?_⟩
        · rw [List.length_map, List.length_map]
          exact Nat.le_of_lt (small1000 (by omega))
        · have s5 := same_upd (o := .lst (as.map V.ref ++ bs.map V.ref)) no
          have hRS : Rows n (T ++ U) := fun t ht => (List.mem_append.mp ht).elim (hR t) (hS t)
          refine ⟨p, o, T ++ U, n, rfl, ⟨as ++ bs, SqL.of ?_, by rw [List.length_append, List.length_append, h2, g2], fun j x t hx ht => ?_⟩, hRS, hn3, by rw [List.length_append]; omega, hp1, hp7, fun H5 o5 G s6 hG hGR hGl eG => ?_⟩
          · rw [upd_same, List.map_append]
          · rcases Nat.lt_or_ge j as.length with hj | hj
            · rw [List.getElem?_append_left hj] at hx
              rw [List.getElem?_append_left (by omega)] at ht
              exact SqL.of (s5 _ _ (h3 j x t hx ht))
            · rw [List.getElem?_append_right hj] at hx
              rw [List.getElem?_append_right (by omega), ← h2] at ht
              exact SqL.of (s5 _ _ (g3 _ x t hx ht))
          · rw [due_plus_yes ok hrd hrd2 hGR eG] at q
            rw [List.length_append] at hGl
            refine ⟨o5, G, n, rfl, hG, hGR, hn3, by omega, fun H6 o6 s7 ho6 => q H6 o6 ?_⟩
            rw [ho6]
            rfl
end
end Nz
namespace Nz
open PySem PySem.Spec PyProof.Rows L2
/-! ### what the top has written -/
theorem all_mk {P : Program} {w : World} {K : PySem.W.Frag} {h : Heap} {mg : Str → Option Value} {fa aP fPl fIp fIs fIt fIo fTp fCt fJt fCr fJr : Addr} (X : K.In h) (G : h.Ns mainGlobals mg) (hfa : mg "plus" = some (.ref fa))
    {odP odPl anPl odIp anIp odIs anIs odIt anIt odIo anIo odTp anTp odCt anCt odJt anJt odCr anCr odJr anJr : Option Addr} {slP slPl slIp slIs slIt slIo slTp slCt slJt slCr slJr : Array (Option Value)} {ocPl kVPl dcPl pmPl cdPl ctPl ocIp kVIp dcIp pmIp cdIp ctIp ocIs kVIs dcIs pmIs cdIs ctIs ocIt kVIt dcIt pmIt cdIt ctIt ocIo kVIo dcIo pmIo cdIo ctIo ocTp kVTp dcTp pmTp cdTp ctTp ocCt kVCt dcCt pmCt cdCt ctCt ocJt kVJt dcJt pmJt cdJt ctJt ocCr kVCr dcCr pmCr cdCr ctCr ocJr kVJr dcJr pmJr cdJr ctJr : Value} {nP : Nat} {tU tO tN tP1 tP2 tP3 tP4 : Tok}
    (aPl : PySem.W.nsIn K mainGlobals "plus" = some (some (.ref fPl))) (lPl : K.lookup fPl = some ⟨ocPl, odPl, .func (PySem.W.fnOf "plus" "plus" (defArgs sPl) (defBody sPl) (defScope sPl) .none kVPl dcPl pmPl anPl cdPl ctPl), slPl⟩) (cPl : PySem.W.codeIn K cdPl "plus" = true) (kPl : PySem.W.keepIn K (.ref fPl) = true)
    (aIp : PySem.W.nsIn K mainGlobals "is_polynomial" = some (some (.ref fIp))) (lIp : K.lookup fIp = some ⟨ocIp, odIp, .func (PySem.W.fnOf "is_polynomial" "is_polynomial" (defArgs sIp) (defBody sIp) (defScope sIp) .none kVIp dcIp pmIp anIp cdIp ctIp), slIp⟩) (cIp : PySem.W.codeIn K cdIp "is_polynomial" = true) (kIp : PySem.W.keepIn K (.ref fIp) = true)
    (aIs : PySem.W.nsIn K mainGlobals "is_space" = some (some (.ref fIs))) (lIs : K.lookup fIs = some ⟨ocIs, odIs, .func (PySem.W.fnOf "is_space" "is_space" (defArgs sIs) (defBody sIs) (defScope sIs) .none kVIs dcIs pmIs anIs cdIs ctIs), slIs⟩) (cIs : PySem.W.codeIn K cdIs "is_space" = true) (kIs : PySem.W.keepIn K (.ref fIs) = true)
    (aIt : PySem.W.nsIn K mainGlobals "is_term" = some (some (.ref fIt))) (lIt : K.lookup fIt = some ⟨ocIt, odIt, .func (PySem.W.fnOf "is_term" "is_term" (defArgs sIt) (defBody sIt) (defScope sIt) .none kVIt dcIt pmIt anIt cdIt ctIt), slIt⟩) (cIt : PySem.W.codeIn K cdIt "is_term" = true) (kIt : PySem.W.keepIn K (.ref fIt) = true)
    (aIo : PySem.W.nsIn K mainGlobals "is_in_order" = some (some (.ref fIo))) (lIo : K.lookup fIo = some ⟨ocIo, odIo, .func (PySem.W.fnOf "is_in_order" "is_in_order" (defArgs sIo) (defBody sIo) (defScope sIo) .none kVIo dcIo pmIo anIo cdIo ctIo), slIo⟩) (cIo : PySem.W.codeIn K cdIo "is_in_order" = true) (kIo : PySem.W.keepIn K (.ref fIo) = true)
    (aTp : PySem.W.nsIn K mainGlobals "term_place" = some (some (.ref fTp))) (lTp : K.lookup fTp = some ⟨ocTp, odTp, .func (PySem.W.fnOf "term_place" "term_place" (defArgs sTp) (defBody sTp) (defScope sTp) .none kVTp dcTp pmTp anTp cdTp ctTp), slTp⟩) (cTp : PySem.W.codeIn K cdTp "term_place" = true) (kTp : PySem.W.keepIn K (.ref fTp) = true)
    (aCt : PySem.W.nsIn K mainGlobals "cut_terms" = some (some (.ref fCt))) (lCt : K.lookup fCt = some ⟨ocCt, odCt, .func (PySem.W.fnOf "cut_terms" "cut_terms" (defArgs sCt) (defBody sCt) (defScope sCt) .none kVCt dcCt pmCt anCt cdCt ctCt), slCt⟩) (cCt : PySem.W.codeIn K cdCt "cut_terms" = true) (kCt : PySem.W.keepIn K (.ref fCt) = true)
    (aJt : PySem.W.nsIn K mainGlobals "joined_terms" = some (some (.ref fJt))) (lJt : K.lookup fJt = some ⟨ocJt, odJt, .func (PySem.W.fnOf "joined_terms" "joined_terms" (defArgs sJt) (defBody sJt) (defScope sJt) .none kVJt dcJt pmJt anJt cdJt ctJt), slJt⟩) (cJt : PySem.W.codeIn K cdJt "joined_terms" = true) (kJt : PySem.W.keepIn K (.ref fJt) = true)
    (aCr : PySem.W.nsIn K mainGlobals "counted_row" = some (some (.ref fCr))) (lCr : K.lookup fCr = some ⟨ocCr, odCr, .func (PySem.W.fnOf "counted_row" "counted_row" (defArgs sCr) (defBody sCr) (defScope sCr) .none kVCr dcCr pmCr anCr cdCr ctCr), slCr⟩) (cCr : PySem.W.codeIn K cdCr "counted_row" = true) (kCr : PySem.W.keepIn K (.ref fCr) = true)
    (aJr : PySem.W.nsIn K mainGlobals "joined_row" = some (some (.ref fJr))) (lJr : K.lookup fJr = some ⟨ocJr, odJr, .func (PySem.W.fnOf "joined_row" "joined_row" (defArgs sJr) (defBody sJr) (defScope sJr) .none kVJr dcJr pmJr anJr cdJr ctJr), slJr⟩) (cJr : PySem.W.codeIn K cdJr "joined_row" = true) (kJr : PySem.W.keepIn K (.ref fJr) = true)
    (aP_ : PySem.W.nsIn K mainGlobals "PRIMES" = some (some (.ref aP))) (lP : K.lookup aP = some ⟨.type "tuple", odP, .seq #[.int 2 tP1, .int 3 tP2, .int 5 tP3, .int 7 tP4] nP, slP⟩)
    (aU : PySem.W.nsIn K mainGlobals "MOST_UNKNOWNS" = some (some (.int (3) tU))) (aO : PySem.W.nsIn K mainGlobals "MOST_OFTEN" = some (some (.int (12) tO))) (aN : PySem.W.nsIn K mainGlobals "NOT_AS_TOLD" = some (some (.int (-22) tN)))
    (zr : PySem.W.nsIn K mainGlobals "range" = some none) (zl : PySem.W.nsIn K mainGlobals "len" = some none) (zu : PySem.W.nsIn K mainGlobals "sum" = some none) (zm : PySem.W.nsIn K mainGlobals "max" = some none) (zt : PySem.W.nsIn K mainGlobals "tuple" = some none) (zi : PySem.W.nsIn K mainGlobals "list" = some none) (zs : PySem.W.nsIn K mainGlobals "sorted" = some none) :
    ∃ fd : FuncData, (∀ (s : Shared) (us : List Value), us.length = (["p", "n", "f", "g"] : List Str).length → BindsTo s fd ⟨us, []⟩ ((["p", "n", "f", "g"] : List Str).zip us)) ∧ ∀ base : Heap, K.In base → base.Ns mainGlobals mg → FnOk P w K mg base CX0 5 fa fd ["p", "n", "f", "g"] (spPl K) := by
  have e := hfa.symm.trans (PySem.W.mg_of X G aPl)
  cases e
  have FPl := fun_mk (st := sPl) lPl cPl kPl
  have FIp := fun_mk (st := sIp) lIp cIp kIp
  have bIp := FIp.binds (ps := ["p", "n", "f"]) fun _ _ _ _ _ _ us hl => match us, hl with | [_, _, _], _ => rfl
  have FIs := fun_mk (st := sIs) lIs cIs kIs
  have bIs := FIs.binds (ps := ["p", "n"]) fun _ _ _ _ _ _ us hl => match us, hl with | [_, _], _ => rfl
  have FIt := fun_mk (st := sIt) lIt cIt kIt
  have bIt := FIt.binds (ps := ["p", "term"]) fun _ _ _ _ _ _ us hl => match us, hl with | [_, _], _ => rfl
  have FIo := fun_mk (st := sIo) lIo cIo kIo
  have bIo := FIo.binds (ps := ["terms"]) fun _ _ _ _ _ _ us hl => match us, hl with | [_], _ => rfl
  have FTp := fun_mk (st := sTp) lTp cTp kTp
  have bTp := FTp.binds (ps := ["term"]) fun _ _ _ _ _ _ us hl => match us, hl with | [_], _ => rfl
  have FCt := fun_mk (st := sCt) lCt cCt kCt
  have bCt := FCt.binds (ps := ["n", "f"]) fun _ _ _ _ _ _ us hl => match us, hl with | [_, _], _ => rfl
  have FJt := fun_mk (st := sJt) lJt cJt kJt
  have bJt := FJt.binds (ps := ["p", "terms"]) fun _ _ _ _ _ _ us hl => match us, hl with | [_, _], _ => rfl
  have FCr := fun_mk (st := sCr) lCr cCr kCr
  have bCr := FCr.binds (ps := ["terms"]) fun _ _ _ _ _ _ us hl => match us, hl with | [_], _ => rfl
  have FJr := fun_mk (st := sJr) lJr cJr kJr
  have bJr := FJr.binds (ps := ["terms"]) fun _ _ _ _ _ _ us hl => match us, hl with | [_], _ => rfl
  have hP : ∀ H : Hp, SqT K H aP [.int 2, .int 3, .int 5, .int 7] := fun H => .inr ⟨_, _, _, lP, rfl, rfl, (by show 4 ≤ sizeLine; decide), .cons ⟨_, rfl⟩ (.cons ⟨_, rfl⟩ (.cons ⟨_, rfl⟩ (.cons ⟨_, rfl⟩ .nil)))⟩
  have L : Low K mg fIs fIt fIo fTp fCt aP _ _ _ _ _ tU tO := ⟨FIs, FIt, FIo, FTp, FCt, bIs, bIt, bIo, bTp, bCt, PySem.W.mg_of X G aIs, PySem.W.mg_of X G aIt, PySem.W.mg_of X G aIo, PySem.W.mg_of X G aTp, PySem.W.mg_of X G aCt, PySem.W.mg_of X G aP_, hP, PySem.W.mg_of X G aU, PySem.W.mg_of X G aO, PySem.W.mg_none_of X G zr, PySem.W.mg_none_of X G zl, PySem.W.mg_none_of X G zu, PySem.W.mg_none_of X G zm⟩
  have W : Jn K mg fIp fJt fCr fJr _ _ _ _ tN := ⟨FIp, FJt, FCr, FJr, bIp, bJt, bCr, bJr, PySem.W.mg_of X G aIp, PySem.W.mg_of X G aJt, PySem.W.mg_of X G aCr, PySem.W.mg_of X G aJr, PySem.W.mg_of X G aN, PySem.W.mg_none_of X G zt, PySem.W.mg_none_of X G zi, PySem.W.mg_none_of X G zs⟩
  exact ⟨_, fun s us hu => match us, hu with | [_, _, _, _], _ => .of_eq rfl, fun base _ _ => ok_pl FPl L W⟩
/-- a request's list, as natural numbers -/
theorem nat_of {l : List Int} {hi : Int} (h : l.all (PySem.W.Codec.inInt 0 hi) = true) : l = natI (l.map Int.toNat) := by
  rw [natI, List.map_map]
  refine ((List.map_congr_left fun x hx => ?_).trans (List.map_id l)).symm
  have q := PySem.W.Codec.inInt_iff.mp (List.all_eq_true.mp h x hx)
  show ((x.toNat : Nat) : Int) = x
  omega
end Nz
open PySem PySem.W PyProof.Rows
set_option maxRecDepth 100000 in
set_option maxHeartbeats 8000000 in
theorem PySem.Challenge.cw_noughtsets_s04_plus_holds : PySem.Challenge.rw_noughtsets_s04_plus.Holds := by
  w_on; k_headS; (case hw => exact ⟨[.int 0, .int 0, .list [], .list []], by decide +kernel, by decide +kernel⟩)
  k_fillS
  refine L2.walk_specK (r := PySem.Challenge.rw_noughtsets_s04_plus) (k := 5) (CX := L2.CX0) (ps := ["p", "n", "f", "g"]) (sp := Nz.spPl) (by decide +kernel) rfl rfl ⟨rfl, by decide, by decide⟩ (fun w h Y => PySem.W.kIn_of Y) ?F ?S (fun _ _ _ _ z => z)
  case F =>
    intro w mg fa h Y KX G hmg
    refine' Nz.all_mk KX G hmg ?aPl ?lPl ?cPl ?kPl ?aIp ?lIp ?cIp ?kIp ?aIs ?lIs ?cIs ?kIs ?aIt ?lIt ?cIt ?kIt ?aIo ?lIo ?cIo ?kIo ?aTp ?lTp ?cTp ?kTp ?aCt ?lCt ?cCt ?kCt ?aJt ?lJt ?cJt ?kJt ?aCr ?lCr ?cCr ?kCr ?aJr ?lJr ?cJr ?kJr ?aP_ ?lP ?aU ?aO ?aN ?zr ?zl ?zu ?zm ?zt ?zi ?zs
    (case aPl => k_is); (case lPl => k_is); (case cPl => k_is); (case kPl => k_is); (case aIp => k_is); (case lIp => k_is); (case cIp => k_is); (case kIp => k_is); (case aIs => k_is); (case lIs => k_is); (case cIs => k_is); (case kIs => k_is); (case aIt => k_is); (case lIt => k_is); (case cIt => k_is); (case kIt => k_is); (case aIo => k_is); (case lIo => k_is); (case cIo => k_is); (case kIo => k_is); (case aTp => k_is); (case lTp => k_is); (case cTp => k_is); (case kTp => k_is); (case aCt => k_is); (case lCt => k_is); (case cCt => k_is); (case kCt => k_is); (case aJt => k_is); (case lJt => k_is); (case cJt => k_is); (case kJt => k_is); (case aCr => k_is); (case lCr => k_is); (case cCr => k_is); (case kCr => k_is); (case aJr => k_is); (case lJr => k_is); (case cJr => k_is); (case kJr => k_is); (case aP_ => k_is); (case lP => k_is); (case aU => k_is); (case aO => k_is); (case aN => k_is); (case zr => k_is); (case zl => k_is); (case zu => k_is); (case zm => k_is); (case zt => k_is); (case zi => k_is); (case zs => k_is)
  case S =>
    intro K H xs a hO hwi hask hx
    obtain ⟨p, n, f, g, u⟩ := a
    have q : (Codec.inInt 0 4294967295 p && (Codec.inInt 0 4294967295 n && ((Codec.inLen 0 400 f && f.all (Codec.inInt 0 4294967295)) && ((Codec.inLen 0 400 g && g.all (Codec.inInt 0 4294967295)) && true)))) = true := hwi
    simp only [Bool.and_eq_true] at q
    obtain ⟨qp, qn, ⟨qf, rf⟩, ⟨qg, rg⟩, _⟩ := q
    have ep : p = ((p.toNat : Nat) : Int) := (Int.toNat_of_nonneg (Codec.inInt_iff.mp qp).1).symm
    have en : n = ((n.toNat : Nat) : Int) := (Int.toNat_of_nonneg (Codec.inInt_iff.mp qn).1).symm
    have ef := Nz.nat_of rf
    have hf : (f.map Int.toNat).length ≤ 400 := by
      rw [List.length_map]
      exact (Codec.inNat_iff.mp qf).2
    have eg := Nz.nat_of rg
    have hg : (g.map Int.toNat).length ≤ 400 := by
      rw [List.length_map]
      exact (Codec.inNat_iff.mp qg).2
    generalize p.toNat = p' at ep
    generalize n.toNat = n' at en
    generalize f.map Int.toNat = f' at ef hf
    generalize g.map Int.toNat = g' at eg hg
    subst ep en ef eg
    cases hx with
    | cons a0 b0 =>
      cases b0 with
      | cons a1 b1 =>
        cases b1 with
        | cons a2 b2 =>
          cases b2 with
          | cons a3 b3 =>
            cases b3
            cases a0
            cases a1
            cases a2 with
            | lst s2 w2 =>
              have z2 := L2.ints_dw (Nz.natI f') _ w2
              subst z2
              cases a3 with
              | lst s3 w3 =>
                have z3 := L2.ints_dw (Nz.natI g') _ w3
                subst z3
                exact ⟨p', n', _, f', _, g', rfl, s2, hf, s3, hg, fun H' o ho => .lst (L2.SqL.of ho) (L2.dw_ints _)⟩
#print axioms PySem.Challenge.cw_noughtsets_s04_plus_holds
