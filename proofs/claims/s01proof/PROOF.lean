import PyProof.Rows.All
import Wide.All
import OpenK.AllK
import Wide.FinOn
import Open.SpecLaws
import KE.OsGo
import HandS.ForSpec
import HandS.ForMost
import HandS.Walk
import PySem.Challenge.RW_hiddendrawers_s01_answers
set_option Elab.async false
set_option maxRecDepth 100000
set_option maxHeartbeats 2000000
set_option linter.unusedVariables false
/-! ## part M -/
namespace Hd
open Ks190

abbrev G : Given := Ks190Neutral.given
theorem place_eq (k : Bytes) (j : Nat) : G.place k j = (k.getD 0 0 + 256 * (k.getD 1 0 % 4) + (2 * k.getD 2 0 + 1) * j) % 1024 := rfl
theorem place_lt (k : Bytes) (j : Nat) : G.place k j < 1024 := by
  rw [place_eq]
  exact Nat.mod_lt _ (by decide)
theorem odd_cop (c : Nat) : Nat.Coprime 1024 (2 * c + 1) := by
  have h2 : Nat.Coprime 2 (2 * c + 1) := by
    show Nat.gcd 2 (2 * c + 1) = 1
    rw [Nat.gcd_rec, show (2 * c + 1) % 2 = 1 by omega]
    exact Nat.gcd_one_left 2
  exact Nat.Coprime.pow_left 10 h2
theorem place_inj (k : Bytes) {i j : Nat} (hi : i < 1024) (hj : j < 1024) (e : G.place k i = G.place k j) : i = j := by
  have main : ∀ (a c : Nat) {i j : Nat}, i < j → j < 1024 → (a + (2 * c + 1) * i) % 1024 = (a + (2 * c + 1) * j) % 1024 → False := by
    intro a c i j hij hj e
    have hd : 1024 ∣ (2 * c + 1) * (j - i) := by
      have e2 : (2 * c + 1) * j = (2 * c + 1) * i + (2 * c + 1) * (j - i) := by
        rw [← Nat.mul_add]
        congr 1
        omega
      rw [e2] at e
      generalize (2 * c + 1) * i = u at e
      generalize (2 * c + 1) * (j - i) = v at e
      omega
    have h := Nat.Coprime.dvd_of_dvd_mul_left (odd_cop c) hd
    have := Nat.le_of_dvd (by omega) h
    omega
  rw [place_eq, place_eq] at e
  rcases Nat.lt_trichotomy i j with h | h | h
  · exact (main _ _ h hj e).elim
  · exact h
  · exact (main _ _ h hi e.symm).elim

theorem nodup_len : ∀ (l m : List Nat), l.Nodup → (∀ x, x ∈ l → x ∈ m) → l.length ≤ m.length
  | [], _, _, _ => Nat.zero_le _
  | x :: r, m, hn, hs => by
    obtain ⟨h1, h2⟩ := List.nodup_cons.mp hn
    have hx : x ∈ m := hs x (List.mem_cons_self ..)
    have ih := nodup_len r (m.erase x) h2 fun y hy => by
      have hne : y ≠ x := fun e => h1 (e ▸ hy)
      exact (List.mem_erase_of_ne hne).mpr (hs y (List.mem_cons_of_mem _ hy))
    rw [List.length_erase_of_mem hx] at ih
    have : 0 < m.length := List.length_pos_of_mem hx
    rw [List.length_cons]
    omega

/-- the places of the key that aren't taken, among the first n asked -/
def got (k : Bytes) (tk : List Nat) : Nat → List Nat
  | 0 => []
  | n + 1 => if tk.contains (G.place k n) then got k tk n else got k tk n ++ [G.place k n]
/-- those that are taken -/
def hit (k : Bytes) (tk : List Nat) : Nat → List Nat
  | 0 => []
  | n + 1 => if tk.contains (G.place k n) then G.place k n :: hit k tk n else hit k tk n
theorem got_hit (k : Bytes) (tk : List Nat) : ∀ n, (got k tk n).length + (hit k tk n).length = n
  | 0 => rfl
  | n + 1 => by
    have ih := got_hit k tk n
    unfold got hit
    split
    · rw [List.length_cons]
      omega
    · rw [List.length_append, List.length_singleton]
      omega
theorem hit_mem (k : Bytes) (tk : List Nat) : ∀ (n : Nat) (x : Nat), x ∈ hit k tk n → x ∈ tk ∧ ∃ i, i < n ∧ x = G.place k i
  | 0, x, h => by cases h
  | n + 1, x, h => by
    unfold hit at h
    split at h
    · rename_i hc
      rcases List.mem_cons.mp h with e | h
      · subst e
        exact ⟨List.contains_iff_mem.mp hc, n, Nat.lt_succ_self _, rfl⟩
      · obtain ⟨h1, i, hi, e⟩ := hit_mem k tk n x h
        exact ⟨h1, i, by omega, e⟩
    · obtain ⟨h1, i, hi, e⟩ := hit_mem k tk n x h
      exact ⟨h1, i, by omega, e⟩
theorem hit_nodup (k : Bytes) (tk : List Nat) : ∀ n, n ≤ 1024 → (hit k tk n).Nodup
  | 0, _ => List.nodup_nil
  | n + 1, hn => by
    have ih := hit_nodup k tk n (by omega)
    unfold hit
    split
    · refine List.nodup_cons.mpr ⟨fun hm => ?_, ih⟩
      obtain ⟨_, i, hi, e⟩ := hit_mem k tk n _ hm
      have := place_inj k (by omega : n < 1024) (by omega : i < 1024) e
      omega
    · exact ih
theorem got_len (k : Bytes) (tk : List Nat) {n : Nat} (hn : n ≤ 1024) : n ≤ (got k tk n).length + tk.length := by
  have h1 := got_hit k tk n
  have h2 := nodup_len (hit k tk n) tk (hit_nodup k tk n hn) fun x hx => (hit_mem k tk n x hx).1
  omega
theorem got_lt (k : Bytes) (tk : List Nat) : ∀ (n : Nat) (x : Nat), x ∈ got k tk n → x < 1024
  | 0, x, h => by cases h
  | n + 1, x, h => by
    unfold got at h
    split at h
    · exact got_lt k tk n x h
    · rcases List.mem_append.mp h with h | h
      · exact got_lt k tk n x h
      · rw [List.mem_singleton.mp h]
        exact place_lt k n
/-- a key's drawer's places and how far it was asked -/
def sk (k : Bytes) (tk : List Nat) : List Nat × Nat := seek G k tk PAGES 0 []
theorem seek_stop {k : Bytes} {tk : List Nat} {f j : Nat} {l : List Nat} (h : 64 ≤ l.length) : seek G k tk f j l = (l, j) := by
  cases f with
  | zero => rfl
  | succ f =>
    show (if SLOTS ≤ l.length then (l, j) else _) = (l, j)
    exact if_pos h
theorem seek_go {k : Bytes} {tk : List Nat} {n : Nat} (h : (got k tk n).length < 64) (hn : n < 1024) :
    seek G k tk (1024 - n) n (got k tk n) = seek G k tk (1024 - (n + 1)) (n + 1) (got k tk (n + 1)) := by
  have e : 1024 - n = (1024 - (n + 1)) + 1 := by omega
  rw [e]
  show (if SLOTS ≤ (got k tk n).length then _ else seek G k tk (1024 - (n + 1)) (n + 1) (if tk.contains (G.place k n) then got k tk n else got k tk n ++ [G.place k n])) = _
  rw [if_neg (show ¬ SLOTS ≤ (got k tk n).length from Nat.not_le.mpr h)]
  rfl
/-- the loop's word -/
theorem sk_at {k : Bytes} {tk : List Nat} : ∀ {n : Nat}, n ≤ 1024 → (∀ m, m < n → (got k tk m).length < 64) → seek G k tk (1024 - n) n (got k tk n) = sk k tk
  | 0, _, _ => rfl
  | n + 1, hn, h => by
    rw [← seek_go (h n (Nat.lt_succ_self _)) hn]
    exact sk_at (by omega) fun m hm => h m (by omega)
theorem got_step (k : Bytes) (tk : List Nat) (n : Nat) : (got k tk (n + 1)).length ≤ (got k tk n).length + 1 := by
  show (if tk.contains (G.place k n) then got k tk n else got k tk n ++ [G.place k n]).length ≤ _
  split
  · omega
  · rw [List.length_append, List.length_singleton]
    omega
/-- some n at which it stops -/
theorem sk_is {k : Bytes} {tk : List Nat} (ht : tk.length ≤ 192) : ∃ n, n ≤ 256 ∧ sk k tk = (got k tk n, n) ∧ (got k tk n).length = 64 := by
  have key : ∀ d n : Nat, n + d = 256 → (∀ m, m < n → (got k tk m).length < 64) → (got k tk n).length ≤ 64 → ∃ n, n ≤ 256 ∧ (∀ m, m < n → (got k tk m).length < 64) ∧ (got k tk n).length = 64 := by
    intro d
    induction d with
    | zero =>
      intro n hn h h2
      have := got_len k tk (n := n) (by omega)
      exact ⟨n, by omega, h, by omega⟩
    | succ d ih =>
      intro n hn h h2
      by_cases c : (got k tk n).length = 64
      · exact ⟨n, by omega, h, c⟩
      · refine ih (n + 1) (by omega) (fun m hm => ?_) ?_
        · rcases Nat.lt_or_ge m n with q | q
          · exact h m q
          · have : m = n := by omega
            subst this
            omega
        · have := got_step k tk n
          omega
  obtain ⟨n, h1, h2, h3⟩ := key 256 0 rfl (fun m hm => absurd hm (Nat.not_lt_zero _)) (by show 0 ≤ 64; omega)
  refine ⟨n, h1, ?_, h3⟩
  rw [← sk_at (by omega) h2, seek_stop (by omega)]
theorem sk_len {k : Bytes} {tk : List Nat} (ht : tk.length ≤ 192) : (sk k tk).1.length = 64 := by
  obtain ⟨n, _, e, h⟩ := sk_is (k := k) ht
  rw [e]
  exact h
theorem sk_lt {k : Bytes} {tk : List Nat} (ht : tk.length ≤ 192) : ∀ x, x ∈ (sk k tk).1 → x < 1024 := by
  obtain ⟨n, _, e, h⟩ := sk_is (k := k) ht
  rw [e]
  exact got_lt k tk n
theorem sk_far {k : Bytes} {tk : List Nat} (ht : tk.length ≤ 192) : (sk k tk).2 ≤ 256 := by
  obtain ⟨n, h, e, _⟩ := sk_is (k := k) ht
  rw [e]
  exact h

/-! what's told of an event -/
def encN : Ev → List Nat
  | .read p _ => [1, p]
  | .write p b => 2 :: p :: b
  | .any b => [3, b.length]
  | .place _ j _ => [4, j]
  | .mix _ z _ => 5 :: z
theorem find_cons (tk : List Nat) (k : Bytes) (r : List Bytes) : find G tk (k :: r) = sk k tk :: find G (tk ++ (sk k tk).1) r := rfl
theorem after_append (d : Medium) (a b : List Ev) : after d (a ++ b) = after (after d a) b := List.foldl_append ..
theorem after_quiet (d : Medium) : ∀ (l : List Ev), (∀ e, e ∈ l → ∀ p b, e ≠ .write p b) → after d l = d
  | [], _ => rfl
  | e :: r, h => by
    have h1 := h e (List.mem_cons_self ..)
    have e1 : on d e = d := by
      cases e with
      | write p b => exact absurd rfl (h1 p b)
      | _ => rfl
    show after (on d e) r = d
    rw [e1]
    exact after_quiet d r fun e he => h e (List.mem_cons_of_mem _ he)
theorem finding_quiet (c : List Bytes) : ∀ e, e ∈ finding G c → ∀ p b, e ≠ .write p b := by
  intro e he p b z
  subst z
  unfold finding at he
  obtain ⟨x, _, hx⟩ := List.mem_flatMap.mp he
  obtain ⟨j, _, hj⟩ := List.mem_map.mp hx
  cases hj

theorem xor_len (a b : Bytes) : (Ks190.xor a b).length = min a.length b.length := List.length_zipWith ..
theorem mix_len (k z : Bytes) : (G.mix k z).length = 80 := by
  show ((List.range 80).map _).length = 80
  rw [List.length_map, List.length_range]

/-! the seed's pages -/
def seeded (seed q : Nat) : Bytes := (List.range 96).map fun i => (seed + 7 * q + 13 * i) % 256
theorem after_fresh (c : Nat → Bytes) (d : Medium) (q : Nat) : ∀ n, after d ((List.range n).flatMap fun p => [.any (c p), .write p (c p)]) q = if q < n then c q else d q
  | 0 => by rw [if_neg (Nat.not_lt_zero _)]; rfl
  | n + 1 => by
    have ih := after_fresh c d q n
    rw [List.range_succ, List.flatMap_append, after_append]
    show (if q = n then c n else after d _ q) = _
    by_cases h : q = n
    · subst h
      rw [if_pos rfl, if_pos (Nat.lt_succ_self _)]
    · rw [if_neg h, ih]
      by_cases h2 : q < n
      · rw [if_pos h2, if_pos (by omega)]
      · rw [if_neg h2, if_neg (by omega)]
theorem fixed_at (d : Medium) {q : Nat} (h : q < 1024) : Ks190Neutral.fixed d q = d q := by
  show ((List.range 1024).map d).getD q [] = d q
  rw [List.getD_eq_getElem?_getD, List.getElem?_map, List.getElem?_range h]
  rfl
end Hd

/-! ## part M2 -/
namespace Hd
open Ks190
open Ks190Neutral (nats)
theorem nats_ints (l : List Nat) : nats (Ks190Neutral.ints l) = l := by
  show (l.map Int.ofNat).map Int.toNat = l
  rw [List.map_map]
  have e : (Int.toNat ∘ Int.ofNat) = id := by funext n; rfl
  rw [e, List.map_id]
theorem ints_app (a b : List Nat) : Ks190Neutral.ints (a ++ b) = Ks190Neutral.ints a ++ Ks190Neutral.ints b := List.map_append
theorem ints_len (a : List Nat) : (Ks190Neutral.ints a).length = a.length := List.length_map _
theorem ints_cons (x : Nat) (l : List Nat) : Ks190Neutral.ints (x :: l) = (x : Int) :: Ks190Neutral.ints l := rfl
/-- a call as it lies in the list -/
inductive Cl where
  | fresh (seed : Nat)
  | put (i : Nat) (k d s : List Nat)
  | get (i : Nat) (k : List Nat)
  | drop (i : Nat) (k s : List Nat)
  | page (p : Nat)
def Cl.num : Cl → Nat
  | .fresh _ => 0
  | .put .. => 1
  | .get .. => 2
  | .drop .. => 3
  | .page _ => 4
def Cl.tail : Cl → List Nat
  | .fresh s => [s]
  | .put i k d s => i :: k.length :: (k ++ (d.length :: (d ++ (s.length :: s))))
  | .get i k => i :: k.length :: k
  | .drop i k s => i :: k.length :: (k ++ (s.length :: s))
  | .page p => [p]
def Cl.flat (q : Cl) : List Nat := q.num :: q.tail
def Cl.call : Cl → List (List Int)
  | .fresh s => [[0, (s : Int)]]
  | .put i k d s => [[1, (i : Int)], Ks190Neutral.ints k, Ks190Neutral.ints d, Ks190Neutral.ints s]
  | .get i k => [[2, (i : Int)], Ks190Neutral.ints k]
  | .drop i k s => [[3, (i : Int)], Ks190Neutral.ints k, Ks190Neutral.ints s]
  | .page p => [[4, (p : Int)]]
theorem row_dec {rest : List Nat} {x s : List Int} (h : PyFlat.row (Ks190Neutral.ints rest) = some (x, s)) : ∃ xr t : List Nat, x = Ks190Neutral.ints xr ∧ s = Ks190Neutral.ints t ∧ rest = xr.length :: (xr ++ t) := by
  cases rest with
  | nil => cases h
  | cons n r =>
    have h : (if 0 ≤ (n : Int) ∧ (n : Int).toNat ≤ (Ks190Neutral.ints r).length then some ((Ks190Neutral.ints r).take (n : Int).toNat, (Ks190Neutral.ints r).drop (n : Int).toNat) else none) = some (x, s) := h
    split at h
    · rename_i c
      have hn : n ≤ r.length := by
        have z := c.2
        rw [ints_len] at z
        exact z
      injection h with h
      injection h with h1 h2
      refine ⟨r.take n, r.drop n, ?_, ?_, ?_⟩
      · rw [← h1]
        exact List.map_take.symm
      · rw [← h2]
        exact List.map_drop.symm
      · rw [List.length_take, Nat.min_eq_left hn, List.take_append_drop]
    · cases h
theorem rows_dec : ∀ (k : Nat) {rest : List Nat} {xs : List (List Int)} {s : List Int}, PyFlat.rows k (Ks190Neutral.ints rest) = some (xs, s) →
    ∃ (rs : List (List Nat)) (t : List Nat), rs.length = k ∧ xs = rs.map Ks190Neutral.ints ∧ s = Ks190Neutral.ints t ∧ rest = (rs.flatMap fun r => r.length :: r) ++ t
  | 0, rest, xs, s, h => by
    injection h with h
    injection h with h1 h2
    exact ⟨[], rest, rfl, h1.symm, h2.symm, rfl⟩
  | k + 1, rest, xs, s, h => by
    unfold PyFlat.rows at h
    split at h
    · cases h
    · rename_i x s1 e1
      split at h
      · cases h
      · rename_i ys t1 e2
        injection h with h
        injection h with h1 h2
        obtain ⟨xr, t, rfl, rfl, rfl⟩ := row_dec e1
        obtain ⟨rs, t2, hl, rfl, rfl, rfl⟩ := rows_dec k e2
        refine ⟨xr :: rs, t2, by rw [List.length_cons, hl], h1.symm, h2.symm, ?_⟩
        rw [List.flatMap_cons, List.cons_append, List.cons_append, List.append_assoc]
theorem call_dec {rest : List Nat} {c : List (List Int)} {s : List Int} (h : PyFlat.call PyKs190.shape (Ks190Neutral.ints rest) = some (c, s)) : ∃ (q : Cl) (t : List Nat), c = q.call ∧ s = Ks190Neutral.ints t ∧ rest = q.flat ++ t := by
  cases rest with
  | nil => cases h
  | cons p r =>
    rw [ints_cons] at h
    unfold PyFlat.call at h
    have hs : ∀ {n k : Nat}, PyKs190.shape (p : Int) = some (n, k) → (if (Ks190Neutral.ints r).length < n then none else match PyFlat.rows k ((Ks190Neutral.ints r).drop n) with | none => none | some (xs, t) => some (((p : Int) :: (Ks190Neutral.ints r).take n) :: xs, t)) = some (c, s) →
        n = 1 → ∃ (i : Nat) (rs : List (List Nat)) (t : List Nat), rs.length = k ∧ c = [(p : Int), (i : Int)] :: rs.map Ks190Neutral.ints ∧ s = Ks190Neutral.ints t ∧ r = i :: ((rs.flatMap fun r => r.length :: r) ++ t) := by
      intro n k _ h hn
      subst hn
      cases r with
      | nil => cases h
      | cons i r =>
        rw [if_neg (by rw [ints_len, List.length_cons]; omega)] at h
        split at h
        · cases h
        · rename_i xs t e
          injection h with h
          injection h with h1 h2
          obtain ⟨rs, t2, hl, rfl, rfl, e3⟩ := rows_dec k (rest := r) e
          exact ⟨i, rs, t2, hl, h1.symm, h2.symm, by rw [e3]⟩
    have hp : p = 0 ∨ p = 1 ∨ p = 2 ∨ p = 3 ∨ p = 4 := by
      refine Classical.byContradiction fun z => ?_
      have e : PyKs190.shape (p : Int) = none := by
        unfold PyKs190.shape
        rw [if_neg (by omega), if_neg (by omega), if_neg (by omega), if_neg (by omega), if_neg (by omega)]
      have h2 : (match PyKs190.shape (p : Int) with
        | none => none
        | some (n, k) => if (Ks190Neutral.ints r).length < n then none else match PyFlat.rows k ((Ks190Neutral.ints r).drop n) with
          | none => none
          | some (xs, t) => some (((p : Int) :: (Ks190Neutral.ints r).take n) :: xs, t)) = some (c, s) := h
      rw [e] at h2
      cases h2
    rcases hp with rfl | rfl | rfl | rfl | rfl
    · obtain ⟨i, rs, t, hl, rfl, rfl, rfl⟩ := hs (n := 1) (k := 0) rfl h rfl
      obtain rfl : rs = [] := List.length_eq_zero_iff.mp hl
      exact ⟨.fresh i, t, rfl, rfl, rfl⟩
    · obtain ⟨i, rs, t, hl, rfl, rfl, rfl⟩ := hs (n := 1) (k := 3) rfl h rfl
      match rs, hl with
      | [a, b, d], _ => exact ⟨.put i a b d, t, rfl, rfl, by simp [Cl.flat, Cl.num, Cl.tail]⟩
    · obtain ⟨i, rs, t, hl, rfl, rfl, rfl⟩ := hs (n := 1) (k := 1) rfl h rfl
      match rs, hl with
      | [a], _ => exact ⟨.get i a, t, rfl, rfl, by simp [Cl.flat, Cl.num, Cl.tail]⟩
    · obtain ⟨i, rs, t, hl, rfl, rfl, rfl⟩ := hs (n := 1) (k := 2) rfl h rfl
      match rs, hl with
      | [a, b], _ => exact ⟨.drop i a b, t, rfl, rfl, by simp [Cl.flat, Cl.num, Cl.tail]⟩
    · obtain ⟨i, rs, t, hl, rfl, rfl, rfl⟩ := hs (n := 1) (k := 0) rfl h rfl
      obtain rfl : rs = [] := List.length_eq_zero_iff.mp hl
      exact ⟨.page i, t, rfl, rfl, rfl⟩
theorem calls_dec {f : Nat} {rest : List Nat} {cs : List (List (List Int))} (h : PyFlat.calls PyKs190.shape f (Ks190Neutral.ints rest) = some cs) (ne : rest ≠ []) :
    ∃ (f' : Nat) (q : Cl) (t : List Nat) (cs' : List (List (List Int))), cs = q.call :: cs' ∧ rest = q.flat ++ t ∧ PyFlat.calls PyKs190.shape f' (Ks190Neutral.ints t) = some cs' := by
  cases rest with
  | nil => exact absurd rfl ne
  | cons p r =>
    rw [ints_cons] at h
    cases f with
    | zero => cases h
    | succ f =>
      unfold PyFlat.calls at h
      split at h
      · cases h
      · rename_i c t e
        split at h
        · cases h
        · rename_i cs' e2
          injection h with h
          obtain ⟨q, t2, rfl, rfl, e3⟩ := call_dec (rest := p :: r) e
          exact ⟨f, q, t2, cs', h.symm, e3, e2⟩
theorem calls_nil {f : Nat} {cs : List (List (List Int))} (h : PyFlat.calls PyKs190.shape f (Ks190Neutral.ints []) = some cs) : cs = [] := by
  cases f with
  | zero =>
    injection h with h
    exact h.symm
  | succ f =>
    injection h with h
    exact h.symm
theorem whole_id (q : Cl) : PyKs190.whole q.call = q.call := by
  cases q <;> rfl
theorem whole_all : ∀ {f : Nat} {rest : List Nat} {cs : List (List (List Int))}, PyFlat.calls PyKs190.shape f (Ks190Neutral.ints rest) = some cs → cs.map PyKs190.whole = cs := by
  intro f
  induction f with
  | zero =>
    intro rest cs h
    cases rest with
    | nil => rw [calls_nil h]; rfl
    | cons p r => cases h
  | succ f ih =>
    intro rest cs h
    cases rest with
    | nil => rw [calls_nil h]; rfl
    | cons p r =>
      rw [ints_cons] at h
      unfold PyFlat.calls at h
      split at h
      · cases h
      · rename_i c t e
        split at h
        · cases h
        · rename_i cs' e2
          injection h with h
          obtain ⟨q, t2, rfl, rfl, e3⟩ := call_dec (rest := p :: r) e
          rw [← h, List.map_cons, whole_id, ih e2]

/-! ### what a step answers -/
def keysN (row : Bytes) : List Bytes := (List.range (row.length / 32)).map fun i => (row.drop (32 * i)).take 32
def refused (m slot : Nat) : Bool := decide (m < 1) || decide (4 < m) || decide (64 ≤ slot)
def resOf (b : Bool) (x : List Ev × Ans) : List Ev × Ans := if b = true then ([], say (-22)) else x
theorem keysN_len (row : Bytes) : (keysN row).length = row.length / 32 := by
  unfold keysN
  rw [List.length_map, List.length_range]
theorem keysN_32 (row : Bytes) : ∀ k, k ∈ keysN row → k.length = 32 := by
  intro k hk
  obtain ⟨i, hi, rfl⟩ := List.mem_map.mp hk
  have hi := List.mem_range.mp hi
  rw [List.length_take, List.length_drop]
  omega
theorem ref_ok {m slot : Nat} (h : refused m slot = false) : 1 ≤ m ∧ m ≤ 4 ∧ slot < 64 := by
  unfold refused at h
  simp only [Bool.or_eq_false_iff, decide_eq_false_iff_not] at h
  omega
theorem ref_no {m slot : Nat} (h : refused m slot = true) : ¬ (1 ≤ m ∧ m ≤ 4) ∨ 64 ≤ slot := by
  unfold refused at h
  simp only [Bool.or_eq_true, decide_eq_true_eq] at h
  omega
def encI (e : Ev) : List Int := Ks190Neutral.ints (encN e)
theorem enc_is : (fun (e : Ev) => match e with | .read p _ => [(1 : Int), (p : Int)] | .write p b => (2 : Int) :: (p : Int) :: Ks190Neutral.ints b | .any b => [(3 : Int), (b.length : Int)] | .place _ j _ => [(4 : Int), (j : Int)] | .mix _ z _ => (5 : Int) :: Ks190Neutral.ints z) = encI := by
  funext e
  cases e <;> rfl
theorem chain_yes {k : Bytes} (h : 1 ≤ k.length / 32 ∧ k.length / 32 ≤ 4) : Ks190Neutral.chain k = some (keysN k) := if_pos h
theorem chain_no {k : Bytes} (h : ¬ (1 ≤ k.length / 32 ∧ k.length / 32 ≤ 4)) : Ks190Neutral.chain k = none := if_neg h
/-- the answer of put, get and drop, by what's asked -/
def answerOf (x : List Ev × Ans) : List Int := x.2.ret :: (Ks190Neutral.ints x.2.out ++ ((x.1.length : Int) :: x.1.flatMap encI))
def putR (s : Medium) (i : Nat) (k d sc : List Nat) : List Ev × Ans := resOf (refused (keysN k).length i) (act G s [sc] (.put (some (keysN k)) i d))
def getR (s : Medium) (i : Nat) (k sc : List Nat) : List Ev × Ans := resOf (refused (keysN k).length i) (act G s [sc] (.get (some (keysN k)) i))
def dropR (s : Medium) (i : Nat) (k sc : List Nat) : List Ev × Ans := resOf (refused (keysN k).length i) (act G s [sc] (.drop (some (keysN k)) i))
theorem act_put_is (s : Medium) (i : Nat) (k d sc : List Nat) : act G s [sc] (.put (Ks190Neutral.chain k) i d) = putR s i k d sc := by
  unfold putR
  cases h : refused (keysN k).length i with
  | false =>
    obtain ⟨h1, h2, h3⟩ := ref_ok h
    rw [keysN_len] at h1 h2
    rw [chain_yes ⟨h1, h2⟩]
    rfl
  | true =>
    rcases ref_no h with h | h
    · rw [keysN_len] at h
      rw [chain_no h]
      rfl
    · by_cases c : 1 ≤ k.length / 32 ∧ k.length / 32 ≤ 4
      · rw [chain_yes c]
        show (if SLOTS ≤ i then _ else _ : List Ev × Ans) = _
        rw [if_pos (show SLOTS ≤ i from h)]
        rfl
      · rw [chain_no c]
        rfl
theorem act_get_is (s : Medium) (i : Nat) (k sc : List Nat) : act G s [sc] (.get (Ks190Neutral.chain k) i) = getR s i k sc := by
  unfold getR
  cases h : refused (keysN k).length i with
  | false =>
    obtain ⟨h1, h2, h3⟩ := ref_ok h
    rw [keysN_len] at h1 h2
    rw [chain_yes ⟨h1, h2⟩]
    rfl
  | true =>
    rcases ref_no h with h | h
    · rw [keysN_len] at h
      rw [chain_no h]
      rfl
    · by_cases c : 1 ≤ k.length / 32 ∧ k.length / 32 ≤ 4
      · rw [chain_yes c]
        show (if SLOTS ≤ i then _ else _ : List Ev × Ans) = _
        rw [if_pos (show SLOTS ≤ i from h)]
        rfl
      · rw [chain_no c]
        rfl
theorem act_drop_is (s : Medium) (i : Nat) (k sc : List Nat) : act G s [sc] (.drop (Ks190Neutral.chain k) i) = dropR s i k sc := by
  unfold dropR
  cases h : refused (keysN k).length i with
  | false =>
    obtain ⟨h1, h2, h3⟩ := ref_ok h
    rw [keysN_len] at h1 h2
    rw [chain_yes ⟨h1, h2⟩]
    rfl
  | true =>
    rcases ref_no h with h | h
    · rw [keysN_len] at h
      rw [chain_no h]
      rfl
    · by_cases c : 1 ≤ k.length / 32 ∧ k.length / 32 ≤ 4
      · rw [chain_yes c]
        show (if SLOTS ≤ i then _ else _ : List Ev × Ans) = _
        rw [if_pos (show SLOTS ≤ i from h)]
        rfl
      · rw [chain_no c]
        rfl
theorem step_put (s : Medium) (i : Nat) (k d sc : List Nat) : Ks190Neutral.step s (Cl.put i k d sc).call = (after s (putR s i k d sc).1, answerOf (putR s i k d sc)) := by
  have e : Ks190Neutral.step s (Cl.put i k d sc).call = (let x := act G s [nats (Ks190Neutral.ints sc)] (.put (Ks190Neutral.chain (nats (Ks190Neutral.ints k))) i (nats (Ks190Neutral.ints d))); (after s x.1, x.2.ret :: (Ks190Neutral.ints x.2.out ++ ((x.1.length : Int) :: x.1.flatMap (fun e => match e with | .read p _ => [(1 : Int), (p : Int)] | .write p b => (2 : Int) :: (p : Int) :: Ks190Neutral.ints b | .any b => [(3 : Int), (b.length : Int)] | .place _ j _ => [(4 : Int), (j : Int)] | .mix _ z _ => (5 : Int) :: Ks190Neutral.ints z))))) := rfl
  rw [e, nats_ints, nats_ints, nats_ints, act_put_is, enc_is]
  rfl
theorem step_get (s : Medium) (i : Nat) (k : List Nat) : Ks190Neutral.step s (Cl.get i k).call = (after s (getR s i k []).1, answerOf (getR s i k [])) := by
  have e : Ks190Neutral.step s (Cl.get i k).call = (let x := act G s [[]] (.get (Ks190Neutral.chain (nats (Ks190Neutral.ints k))) i); (after s x.1, x.2.ret :: (Ks190Neutral.ints x.2.out ++ ((x.1.length : Int) :: x.1.flatMap (fun e => match e with | .read p _ => [(1 : Int), (p : Int)] | .write p b => (2 : Int) :: (p : Int) :: Ks190Neutral.ints b | .any b => [(3 : Int), (b.length : Int)] | .place _ j _ => [(4 : Int), (j : Int)] | .mix _ z _ => (5 : Int) :: Ks190Neutral.ints z))))) := rfl
  rw [e, nats_ints, act_get_is, enc_is]
  rfl
theorem step_drop (s : Medium) (i : Nat) (k sc : List Nat) : Ks190Neutral.step s (Cl.drop i k sc).call = (after s (dropR s i k sc).1, answerOf (dropR s i k sc)) := by
  have e : Ks190Neutral.step s (Cl.drop i k sc).call = (let x := act G s [nats (Ks190Neutral.ints sc)] (.drop (Ks190Neutral.chain (nats (Ks190Neutral.ints k))) i); (after s x.1, x.2.ret :: (Ks190Neutral.ints x.2.out ++ ((x.1.length : Int) :: x.1.flatMap (fun e => match e with | .read p _ => [(1 : Int), (p : Int)] | .write p b => (2 : Int) :: (p : Int) :: Ks190Neutral.ints b | .any b => [(3 : Int), (b.length : Int)] | .place _ j _ => [(4 : Int), (j : Int)] | .mix _ z _ => (5 : Int) :: Ks190Neutral.ints z))))) := rfl
  rw [e, nats_ints, nats_ints, act_drop_is, enc_is]
  rfl
theorem step_page (s : Medium) (p : Nat) : Ks190Neutral.step s (Cl.page p).call = (s, 0 :: Ks190Neutral.ints (s (p % 1024))) := rfl
theorem step_fresh (s : Medium) (seed : Nat) : (∀ q, q < 1024 → (Ks190Neutral.step s (Cl.fresh seed).call).1 q = seeded seed q) ∧ (Ks190Neutral.step s (Cl.fresh seed).call).2 = [0] := by
  refine ⟨fun q hq => ?_, rfl⟩
  have e : (Ks190Neutral.step s (Cl.fresh seed).call).1 = Ks190Neutral.fixed (after s ((List.range 1024).flatMap fun p => [.any (((List.range 1024).map (seeded seed)).getD p []), .write p (((List.range 1024).map (seeded seed)).getD p [])])) := rfl
  rw [e, fixed_at _ hq, after_fresh (fun p => ((List.range 1024).map (seeded seed)).getD p []) s q 1024, if_pos hq, List.getD_eq_getElem?_getD, List.getElem?_map, List.getElem?_range hq]
  rfl
/-- what may be handed in, call by call -/
def Good (s : Medium) : Cl → Prop
  | .put i k d sc => d.length = 64 ∧ (refused (keysN k).length i = false → sc.length = 16)
  | .drop i k sc => refused (keysN k).length i = false → sc.length = 96
  | _ => True
theorem good_of {s : Medium} {q : Cl} (h1 : Ks190Neutral.form q.call = true) (h2 : Ks190Neutral.scripted s q.call = true) : Good s q := by
  cases q with
  | fresh => trivial
  | get => trivial
  | page => trivial
  | put i k d sc =>
    refine ⟨?_, fun hr => ?_⟩
    · unfold Ks190Neutral.form at h1
      split at h1
      · cases h1
      · rw [Bool.and_eq_true] at h1
        rcases Bool.or_eq_true _ _ ▸ h1.2 with z | z
        · exact absurd z (by
            have e : Ks190Neutral.num (Cl.put i k d sc).call 0 0 = 1 := rfl
            rw [e]
            decide)
        · have e : (Cl.put i k d sc).call.getD 2 [] = Ks190Neutral.ints d := rfl
          rw [e, ints_len] at z
          exact eq_of_beq z
    · have e : Ks190Neutral.scripted s (Cl.put i k d sc).call = ((nats (Ks190Neutral.ints sc)).length == (sizes (.put (Ks190Neutral.chain (nats (Ks190Neutral.ints k))) i (nats (Ks190Neutral.ints d)))).foldl (· + ·) 0) := rfl
      obtain ⟨a1, a2, a3⟩ := ref_ok hr
      rw [keysN_len] at a1 a2
      rw [e, nats_ints, nats_ints, nats_ints, chain_yes ⟨a1, a2⟩] at h2
      have z := eq_of_beq h2
      rw [z]
      show (if i < SLOTS then [16] else []).foldl (· + ·) 0 = 16
      rw [if_pos (show i < SLOTS from a3)]
      rfl
  | drop i k sc =>
    intro hr
    have e : Ks190Neutral.scripted s (Cl.drop i k sc).call = ((nats (Ks190Neutral.ints sc)).length == (sizes (.drop (Ks190Neutral.chain (nats (Ks190Neutral.ints k))) i)).foldl (· + ·) 0) := rfl
    obtain ⟨a1, a2, a3⟩ := ref_ok hr
    rw [keysN_len] at a1 a2
    rw [e, nats_ints, nats_ints, chain_yes ⟨a1, a2⟩] at h2
    have z := eq_of_beq h2
    rw [z]
    show (if i < SLOTS then [96] else []).foldl (· + ·) 0 = 96
    rw [if_pos (show i < SLOTS from a3)]
    rfl
end Hd

/-! ## part P -/
namespace Hd
open PySem PySem.Spec PyProof.Rows L2
open Ks190 (Medium Bytes)

/-! ### a list of whole numbers from 0 on, as values -/
def vI (l : List Nat) : List V := l.map fun (n : Nat) => V.int (n : Int)
theorem vI_len (l : List Nat) : (vI l).length = l.length := List.length_map ..
theorem vI_app (a b : List Nat) : vI (a ++ b) = vI a ++ vI b := List.map_append ..
theorem vI_get (l : List Nat) (i : Nat) : (vI l)[i]? = (l[i]?).map fun (n : Nat) => V.int (n : Int) := List.getElem?_map ..
theorem vI_at {l : List Nat} {i : Nat} (h : i < l.length) : (vI l)[i]? = some (V.int (l.getD i 0 : Nat)) := by
  rw [vI_get, List.getD_eq_getElem?_getD, List.getElem?_eq_getElem h]
  rfl
theorem vI_ints (l : List Nat) : vI l = (Ks190Neutral.ints l).map V.int := by
  show l.map _ = (l.map Int.ofNat).map V.int
  rw [List.map_map]
  exact List.map_congr_left fun _ _ => rfl
theorem vI_drop (l : List Nat) (n : Nat) : (vI l).drop n = vI (l.drop n) := List.map_drop.symm
theorem vI_take (l : List Nat) (n : Nat) : (vI l).take n = vI (l.take n) := List.map_take.symm

/-! ### frames: what stands outside a region stays; a region grows by what is new alone -/
abbrev Reg := Addr → Prop
def Keep (R : Reg) (H H' : Hp) : Prop := ∀ b o, H b = some o → ¬ R b → H' b = some o
def Grow (R : Reg) (H : Hp) (R' : Reg) : Prop := ∀ b, R' b → R b ∨ H b = none
theorem Keep.refl (R : Reg) (H : Hp) : Keep R H H := fun _ _ e _ => e
theorem Grow.refl (R : Reg) (H : Hp) : Grow R H R := fun _ e => .inl e
theorem Grow.out {R R' : Reg} {H : Hp} (g : Grow R H R') {b : Addr} {o : HO} (e : H b = some o) (n : ¬ R b) : ¬ R' b := fun h => by
  rcases g b h with q | q
  · exact n q
  · rw [e] at q
    cases q
theorem Keep.trans {R R' : Reg} {H H1 H2 : Hp} (k : Keep R H H1) (g : Grow R H R') (k' : Keep R' H1 H2) : Keep R H H2 := fun b o e n => k' b o (k b o e n) (g.out e n)
theorem Keep.none_back {R : Reg} {H H1 : Hp} (k : Keep R H H1) {b : Addr} (h : H1 b = none) : R b ∨ H b = none := by
  cases e : H b with
  | none => exact .inr rfl
  | some o =>
    by_cases r : R b
    · exact .inl r
    · rw [k b o e r] at h
      cases h
theorem Grow.trans {R R1 R2 : Reg} {H H1 : Hp} (g : Grow R H R1) (k : Keep R H H1) (g' : Grow R1 H1 R2) : Grow R H R2 := fun b h => by
  rcases g' b h with q | q
  · exact g b q
  · exact k.none_back q
theorem Same.keep {R : Reg} {H H' : Hp} (s : Same H H') : Keep R H H' := fun b o e _ => s b o e
theorem Same.new {H : Hp} {p : Addr} {o : HO} (h : H p = none) : Same H (upd H p o) := fun b u e => by
  rw [upd_ne (ne_of_none e h)]
  exact e
/-- a new object beside the region -/
theorem Same.mut {H H' : Hp} {p : Addr} {o : HO} (s : Same H H') (h : H p = none) : Same H (upd H' p o) := fun b u e => by
  rw [upd_ne (ne_of_none e h)]
  exact s b u e
theorem Keep.seq {K : PySem.W.Frag} {R : Reg} {H H' : Hp} {a : Addr} {xs : List V} (k : Keep R H H') (h : H a = some (.lst xs)) (n : ¬ R a) : SqL K H' a xs := SqL.of (k _ _ h n)

/-! ### fields -/
theorem lk_here {k : Str} {v : V} {r : List (Str × V)} : List.lookup k ((k, v) :: r) = some v := by
  have e : (k == k) = true := beq_self_eq_true k
  simp only [List.lookup, e]
theorem lk_past {k g : Str} {v : V} {r : List (Str × V)} (h : (k == g) = false) : List.lookup k ((g, v) :: r) = List.lookup k r := by
  simp only [List.lookup, h]
theorem put_here {f : Str} {v x : V} {r : List (Str × V)} : putF f v ((f, x) :: r) = (f, v) :: r := if_pos rfl
theorem put_past {f g : Str} {v x : V} {r : List (Str × V)} (h : ¬ g = f) : putF f v ((g, x) :: r) = (g, x) :: putF f v r := if_neg h

/-! ### Pages -/
def pF (fv : V) (dd : Addr) : List (Str × V) := [("filling", fv), ("written", .ref dd)]
theorem pF_filling (fv : V) (dd : Addr) : (pF fv dd).lookup ("filling" : Str) = some fv := lk_here
theorem pF_written (fv : V) (dd : Addr) : (pF fv dd).lookup ("written" : Str) = some (.ref dd) := (lk_past (by decide +kernel)).trans lk_here
theorem pF_no (fv : V) (dd : Addr) {m : Str} (h1 : (m == ("filling" : Str)) = false) (h2 : (m == ("written" : Str)) = false) : (pF fv dd).lookup m = none := (lk_past h1).trans ((lk_past h2).trans rfl)
theorem pF_new (fv : V) (dd : Addr) : putF "written" (.ref dd) (putF "filling" fv []) = pF fv dd := (put_past (by decide +kernel)).trans rfl
theorem pF_put1 (fv fv' : V) (dd : Addr) : putF "filling" fv' (pF fv dd) = pF fv' dd := put_here
theorem pF_put2 (fv : V) (dd dd' : Addr) : putF "written" (.ref dd') (pF fv dd) = pF fv dd' := (put_past (by decide +kernel)).trans (congrArg _ put_here)
/-- what a page that isn't written holds -/
def Base (fv : V) (q : Nat) (b : Bytes) : Prop := (fv = .non ∧ b = Ks190.zeros 96) ∨ ∃ seed : Nat, fv = .int (seed : Int) ∧ b = seeded seed q
structure PagesB (CP : Addr) (H : Hp) (p : Addr) (S : Reg) (d : Medium) (n : Nat) (dx dd : Addr) (kvs : List (Key × V)) (fv : V) : Prop where
  ob : H p = some (.ins CP dx (pF fv dd))
  dc : H dd = some (.dK kvs)
  sp : S p
  sd : S dd
  all : ∀ b, S b → ∃ o, H b = some o
  few : kvs.length ≤ n
  len : ∀ q, q < 1024 → (d q).length = 96
  at_ : ∀ q : Nat, q < 1024 → match valV kvs (Sum.inl (q : Int)) with
    | some v => ∃ l, v = .ref l ∧ S l ∧ H l = some (.lst (vI (d q)))
    | none => Base fv q (d q)
def PagesAt (CP : Addr) (H : Hp) (p : Addr) (S : Reg) (d : Medium) (n : Nat) : Prop := ∃ dx dd kvs fv, PagesB CP H p S d n dx dd kvs fv
theorem PagesAt.keep {CP : Addr} {H H' : Hp} {p : Addr} {S : Reg} {d : Medium} {n : Nat} {R : Reg} (h : PagesAt CP H p S d n) (k : Keep R H H') (a : ∀ b, S b → ¬ R b) : PagesAt CP H' p S d n := by
  obtain ⟨dx, dd, kvs, fv, h⟩ := h
  refine ⟨dx, dd, kvs, fv, k _ _ h.ob (a _ h.sp), k _ _ h.dc (a _ h.sd), h.sp, h.sd, fun b z => let ⟨o, e⟩ := h.all b z; ⟨o, k b o e (a b z)⟩, h.few, h.len, fun q hq => ?_⟩
  have z := h.at_ q hq
  split at z
  · obtain ⟨l, e, s, x⟩ := z
    exact ⟨l, e, s, k _ _ x (a _ s)⟩
  · exact z
theorem PagesAt.same {CP : Addr} {H H' : Hp} {p : Addr} {S : Reg} {d : Medium} {n : Nat} (h : PagesAt CP H p S d n) (s : Same H H') : PagesAt CP H' p S d n := h.keep (R := fun _ => False) (Same.keep s) fun _ _ z => z
theorem PagesAt.in {CP : Addr} {H : Hp} {p : Addr} {S : Reg} {d : Medium} {n : Nat} (h : PagesAt CP H p S d n) : S p := by
  obtain ⟨dx, dd, kvs, fv, h⟩ := h
  exact h.sp
theorem PagesAt.all {CP : Addr} {H : Hp} {p : Addr} {S : Reg} {d : Medium} {n : Nat} (h : PagesAt CP H p S d n) : ∀ b, S b → ∃ o, H b = some o := by
  obtain ⟨dx, dd, kvs, fv, h⟩ := h
  exact h.all
theorem PagesAt.len {CP : Addr} {H : Hp} {p : Addr} {S : Reg} {d : Medium} {n : Nat} (h : PagesAt CP H p S d n) : ∀ q, q < 1024 → (d q).length = 96 := by
  obtain ⟨dx, dd, kvs, fv, h⟩ := h
  exact h.len
theorem PagesAt.mono {CP : Addr} {H : Hp} {p : Addr} {S : Reg} {d : Medium} {n m : Nat} (h : PagesAt CP H p S d n) (l : n ≤ m) : PagesAt CP H p S d m := by
  obtain ⟨dx, dd, kvs, fv, h⟩ := h
  exact ⟨dx, dd, kvs, fv, h.ob, h.dc, h.sp, h.sd, h.all, Nat.le_trans h.few l, h.len, h.at_⟩
theorem PagesAt.congr {CP : Addr} {H : Hp} {p : Addr} {S : Reg} {d d' : Medium} {n : Nat} (h : PagesAt CP H p S d n) (e : ∀ q, q < 1024 → d' q = d q) : PagesAt CP H p S d' n := by
  obtain ⟨dx, dd, kvs, fv, h⟩ := h
  refine ⟨dx, dd, kvs, fv, h.ob, h.dc, h.sp, h.sd, h.all, h.few, fun q hq => by rw [e q hq]; exact h.len q hq, fun q hq => ?_⟩
  rw [e q hq]
  exact h.at_ q hq

/-! ### lists of lists -/
def Items (H : Hp) (Pd : Reg) (rs : List V) (tl : List (List Nat)) : Prop := rs.length = tl.length ∧ ∀ (i : Nat) (e : List Nat), tl[i]? = some e → ∃ l, rs[i]? = some (.ref l) ∧ Pd l ∧ H l = some (.lst (vI e))
theorem Items.nil {H : Hp} {Pd : Reg} : Items H Pd [] [] := ⟨rfl, fun i e h => by simp at h⟩
theorem Items.snoc {H : Hp} {Pd : Reg} {rs : List V} {tl : List (List Nat)} {l : Addr} {e : List Nat} (h : Items H Pd rs tl) (a : Pd l) (b : H l = some (.lst (vI e))) : Items H Pd (rs ++ [.ref l]) (tl ++ [e]) := by
  refine ⟨by rw [List.length_append, List.length_append, h.1]; rfl, fun i x hx => ?_⟩
  rcases Nat.lt_trichotomy i tl.length with c | c | c
  · rw [List.getElem?_append_left c] at hx
    obtain ⟨l', h1, h2⟩ := h.2 i x hx
    exact ⟨l', by rw [List.getElem?_append_left (by rw [h.1]; exact c)]; exact h1, h2⟩
  · subst c
    rw [List.getElem?_append_right (Nat.le_refl _), Nat.sub_self] at hx
    have e1 : e = x := Option.some.inj hx
    subst e1
    refine ⟨l, ?_, a, b⟩
    rw [List.getElem?_append_right (by rw [h.1]; exact Nat.le_refl _), h.1, Nat.sub_self]
    rfl
  · rw [List.getElem?_eq_none (by rw [List.length_append, List.length_singleton]; omega)] at hx
    cases hx
theorem Items.mono {H H' : Hp} {Pd Pd' : Reg} {rs : List V} {tl : List (List Nat)} (h : Items H Pd rs tl) (k : ∀ l o, Pd l → H l = some o → Pd' l ∧ H' l = some o) : Items H' Pd' rs tl := by
  refine ⟨h.1, fun i e he => ?_⟩
  obtain ⟨l, h1, h2, h3⟩ := h.2 i e he
  obtain ⟨h4, h5⟩ := k l _ h2 h3
  exact ⟨l, h1, h4, h5⟩

/-! ### Asking -/
def aF (p s t : Addr) : List (Str × V) := [("pages", .ref p), ("script", .ref s), ("things", .ref t)]
theorem aF_pages (p s t : Addr) : (aF p s t).lookup ("pages" : Str) = some (.ref p) := lk_here
theorem aF_script (p s t : Addr) : (aF p s t).lookup ("script" : Str) = some (.ref s) := (lk_past (by decide +kernel)).trans lk_here
theorem aF_things (p s t : Addr) : (aF p s t).lookup ("things" : Str) = some (.ref t) := (lk_past (by decide +kernel)).trans ((lk_past (by decide +kernel)).trans lk_here)
theorem aF_no (p s t : Addr) {m : Str} (h1 : (m == ("pages" : Str)) = false) (h2 : (m == ("script" : Str)) = false) (h3 : (m == ("things" : Str)) = false) : (aF p s t).lookup m = none := (lk_past h1).trans ((lk_past h2).trans ((lk_past h3).trans rfl))
theorem aF_new (p s t : Addr) : putF "things" (.ref t) (putF "script" (.ref s) (putF "pages" (.ref p) [])) = aF p s t := by
  show putF "things" (.ref t) (putF "script" (.ref s) [("pages", .ref p)]) = _
  rw [put_past (by decide +kernel)]
  show putF "things" (.ref t) [("pages", .ref p), ("script", .ref s)] = _
  rw [put_past (by decide +kernel), put_past (by decide +kernel)]
  rfl
structure AskB (CP CA : Addr) (H : Hp) (R S : Reg) (a p s t dxa : Addr) (rs : List V) (d : Medium) (n : Nat) (sc : Bytes) (tl : List (List Nat)) : Prop where
  ob : H a = some (.ins CA dxa (aF p s t))
  pg : PagesAt CP H p S d n
  scr : H s = some (.lst (vI sc))
  thg : H t = some (.lst rs)
  its : Items H (fun l => R l ∧ ¬ S l ∧ l ≠ t) rs tl
  sub : ∀ b, S b → R b
  all : ∀ b, R b → ∃ o, H b = some o
  ra : R a
  rsc : R s
  rt : R t
  na : ¬ S a
  ns : ¬ S s
  nt : ¬ S t
  st : s ≠ t
def AskAt (CP CA : Addr) (H : Hp) (R : Reg) (a p : Addr) (d : Medium) (n : Nat) (sc : Bytes) (tl : List (List Nat)) : Prop := ∃ S s t dxa rs, AskB CP CA H R S a p s t dxa rs d n sc tl
section
variable {CP CA : Addr} {H H' : Hp} {R R' S : Reg} {a p s t dxa : Addr} {rs : List V} {d : Medium} {n : Nat} {sc : Bytes} {tl : List (List Nat)}
theorem AskB.keep (h : AskB CP CA H R S a p s t dxa rs d n sc tl) (k : Same H H') : AskB CP CA H' R S a p s t dxa rs d n sc tl :=
  ⟨k _ _ h.ob, h.pg.same k, k _ _ h.scr, k _ _ h.thg, h.its.mono fun l o a e => ⟨a, k _ _ e⟩, h.sub, fun b z => let ⟨o, e⟩ := h.all b z; ⟨o, k b o e⟩, h.ra, h.rsc, h.rt, h.na, h.ns, h.nt, h.st⟩
theorem AskAt.same (h : AskAt CP CA H R a p d n sc tl) (k : Same H H') : AskAt CP CA H' R a p d n sc tl := by
  obtain ⟨S, s, t, dxa, rs, h⟩ := h
  exact ⟨S, s, t, dxa, rs, h.keep k⟩
theorem AskAt.keep {N : Reg} (h : AskAt CP CA H R a p d n sc tl) (k : Keep N H H') (ne : ∀ b, R b → ¬ N b) : AskAt CP CA H' R a p d n sc tl := by
  obtain ⟨S, s, t, dxa, rs, h⟩ := h
  exact ⟨S, s, t, dxa, rs, k _ _ h.ob (ne _ h.ra), h.pg.keep k fun b z => ne b (h.sub b z), k _ _ h.scr (ne _ h.rsc), k _ _ h.thg (ne _ h.rt), h.its.mono fun l o a e => ⟨a, k _ _ e (ne _ a.1)⟩,
    h.sub, fun b z => let ⟨o, e⟩ := h.all b z; ⟨o, k b o e (ne b z)⟩, h.ra, h.rsc, h.rt, h.na, h.ns, h.nt, h.st⟩
/-- one thing more is told: its list lies at q (new), the list of things has it -/
theorem AskB.log (h : AskB CP CA H R S a p s t dxa rs d n sc tl) {q : Addr} {e : List Nat} (hq : H q = none) :
    AskB CP CA (upd (upd H q (.lst (vI e))) t (.lst (rs ++ [.ref q]))) (fun b => R b ∨ b = q) S a p s t dxa (rs ++ [.ref q]) d n sc (tl ++ [e]) := by
  have tq : t ≠ q := ne_of_none h.thg hq
  have aq : a ≠ q := ne_of_none h.ob hq
  have sq : s ≠ q := ne_of_none h.scr hq
  have at_ : a ≠ t := ne_of h.ob h.thg fun z => by cases z
  have pgq : PagesAt CP (upd (upd H q (.lst (vI e))) t (.lst (rs ++ [.ref q]))) p S d n := by
    refine (h.pg.same (Same.new (o := HO.lst (vI e)) hq)).keep (R := fun b => b = t) (fun b o e n => ?_) fun b sb z => h.nt (z ▸ sb)
    rw [upd_ne n]
    exact e
  have nSq : ¬ S q := fun z => by
    obtain ⟨o, e⟩ := h.all q (h.sub q z)
    rw [e] at hq
    cases hq
  refine ⟨?_, pgq, ?_, upd_same, ?_, fun b z => .inl (h.sub b z), fun b z => ?_, .inl h.ra, .inl h.rsc, .inl h.rt, h.na, h.ns, h.nt, h.st⟩
  · rw [upd_ne at_, upd_ne aq]
    exact h.ob
  · rw [upd_ne h.st, upd_ne sq]
    exact h.scr
  · refine Items.snoc (h.its.mono fun l o z e => ⟨⟨.inl z.1, z.2.1, z.2.2⟩, ?_⟩) ⟨.inr rfl, nSq, tq.symm⟩ ?_
    · rw [upd_ne z.2.2, upd_ne (ne_of_none e hq)]
      exact e
    · rw [upd_ne tq.symm]
      exact upd_same
  · by_cases bt : b = t
    · subst bt
      exact ⟨_, upd_same⟩
    · rw [upd_ne bt]
      rcases z with z | z
      · obtain ⟨o, e⟩ := h.all b z
        exact ⟨o, by rw [upd_ne (ne_of_none e hq)]; exact e⟩
      · subst z
        exact ⟨_, upd_same⟩
/-- .. and what stood outside stands -/
theorem AskB.log_keep (h : AskB CP CA H R S a p s t dxa rs d n sc tl) {q : Addr} {o o2 : HO} (hq : H q = none) : Keep R H (upd (upd H q o) t o2) := fun b u e nr => by
  have bt : b ≠ t := fun z => nr (by rw [z]; exact h.rt)
  rw [upd_ne bt, upd_ne (ne_of_none e hq)]
  exact e
theorem log_grow {q : Addr} (hq : H q = none) : Grow R H (fun b => R b ∨ b = q) := fun b z => by
  rcases z with z | z
  · exact .inl z
  · exact .inr (by rw [z]; exact hq)
theorem AskAt.all (h : AskAt CP CA H R a p d n sc tl) : ∀ b, R b → ∃ o, H b = some o := by
  obtain ⟨S, s, t, dxa, rs, h⟩ := h
  exact h.all
theorem AskAt.out (h : AskAt CP CA H R a p d n sc tl) {q : Addr} (hq : H q = none) : ¬ R q := fun z => by
  obtain ⟨o, e⟩ := h.all q z
  rw [e] at hq
  cases hq
end

/-! ### the text by places, what the top has written -/
def top (i : Nat) : Stmt := PySem.Challenge.pw_hiddendrawers_s01_answers.main.body.getD i (.Pass ⟨0, 0, 0, 0⟩)
abbrev sKeysOf : Stmt := top 9
abbrev sPlaceOf : Stmt := top 10
abbrev sPadOf : Stmt := top 11
abbrev sUnder : Stmt := top 12
abbrev sAInit : Stmt := inClass (top 13) 0
abbrev sRead : Stmt := inClass (top 13) 1
abbrev sWrite : Stmt := inClass (top 13) 2
abbrev sChance : Stmt := inClass (top 13) 3
abbrev sPlace : Stmt := inClass (top 13) 4
abbrev sPad : Stmt := inClass (top 13) 5
abbrev sAccount : Stmt := inClass (top 13) 6
abbrev sDrawer : Stmt := top 14
abbrev sFind : Stmt := top 15
abbrev sRefused : Stmt := top 16
abbrev sPut : Stmt := top 17
abbrev sGet : Stmt := top 18
abbrev sDrop : Stmt := top 19
abbrev sPInit : Stmt := inClass (top 25) 0
abbrev sFill : Stmt := inClass (top 25) 1
abbrev sStore : Stmt := inClass (top 25) 2
abbrev sShow : Stmt := inClass (top 25) 3
abbrev sRInit : Stmt := inClass (top 26) 0
abbrev sMore : Stmt := inClass (top 26) 1
abbrev sNumber : Stmt := inClass (top 26) 2
abbrev sRow : Stmt := inClass (top 26) 3
abbrev sDAnswer : Stmt := top 27
abbrev sNext : Stmt := top 28
abbrev sAnswers : Stmt := top 29
structure Txt (K : PySem.W.Frag) (mg : Str → Option Value) (CA CP CR : Addr) : Prop where
  cA : Cls K CA
  cP : Cls K CP
  cR : Cls K CR
  aPages : NoAttr K CA "pages"
  aScript : NoAttr K CA "script"
  aThings : NoAttr K CA "things"
  pFilling : NoAttr K CP "filling"
  pWritten : NoAttr K CP "written"
  rNumbers : NoAttr K CR "numbers"
  rAt : NoAttr K CR "at"
  gA : mg "Asking" = some (.ref CA)
  gP : mg "Pages" = some (.ref CP)
  gR : mg "Reader" = some (.ref CR)
  pageCount : ∃ t, mg "PAGE_COUNT" = some (.int 1024 t)
  pageBytes : ∃ t, mg "PAGE_BYTES" = some (.int 96 t)
  keyBytes : ∃ t, mg "KEY_BYTES" = some (.int 32 t)
  keysMost : ∃ t, mg "KEYS_AT_MOST" = some (.int 4 t)
  slotCount : ∃ t, mg "SLOT_COUNT" = some (.int 64 t)
  saltBytes : ∃ t, mg "SALT_BYTES" = some (.int 16 t)
  markBytes : ∃ t, mg "MARK_BYTES" = some (.int 16 t)
  padBytes : ∃ t, mg "PAD_BYTES" = some (.int 80 t)
  fresh : ∃ t, mg "FRESH" = some (.int 0 t)
  put : ∃ t, mg "PUT" = some (.int 1 t)
  get : ∃ t, mg "GET" = some (.int 2 t)
  drop : ∃ t, mg "DROP" = some (.int 3 t)
  len : mg "len" = none
  range : mg "range" = none
  zip : mg "zip" = none
  any : mg "any" = none
  list : mg "list" = none
/-- a def of the top that keeps its promise, as its callers want it -/
abbrev Def (P : Program) (w : World) (K : PySem.W.Frag) (mg : Str → Option Value) (base : Heap) (x : Str) (k : Nat) (ps : List Str) (sp : Sp) : Prop :=
  ∃ f fd, FnOk P w K mg base CX0 k f fd ps sp ∧ mg x = some (.ref f) ∧ PySem.W.keepIn K (.ref f) = true ∧ Binds K fd ps []
/-- a method -/
abbrev Mth (P : Program) (w : World) (K : PySem.W.Frag) (mg : Str → Option Value) (base : Heap) (C : Addr) (m : Str) (k : Nat) (ps : List Str) (sp : Sp) : Prop :=
  ∃ f fd, FnOk P w K mg base CX0 k f fd ps sp ∧ Meth K C m f ∧ Binds K fd ps []
/-- a class's __init__ -/
abbrev Ini (P : Program) (w : World) (K : PySem.W.Frag) (mg : Str → Option Value) (base : Heap) (C : Addr) (k : Nat) (ps : List Str) (sp : Sp) : Prop :=
  ∃ f fd, FnOk P w K mg base CX0 k f fd ps sp ∧ Mk K C f ∧ Binds K fd ps []
end Hd

/-! ## part B1 -/
namespace Hd
open PySem PySem.Spec PyProof.Rows L2
open Ks190 (Medium Bytes)
section
variable {P : Program} {w : World} {K : PySem.W.Frag} {mg : Str → Option Value} {base : Heap} {CA CP CR : Addr}
/-! ### place_of -/
def spPlaceOf (K : PySem.W.Frag) : Sp := fun vs H Q _ => ∃ (a : Addr) (key : Bytes) (j : Nat), vs = [.ref a, .int (j : Int)] ∧ SqL K H a (vI key) ∧ 3 ≤ key.length ∧ j ≤ 1024 ∧ Q (.int (G.place key j : Nat)) H
theorem scPlaceOf : FnScope ["key", "j", "start", "step"] ["key", "j"] (defScope sPlaceOf) := ⟨rfl, rfl, rfl, by decide +kernel, rfl, by decide +kernel, by decide +kernel⟩
theorem ok_placeOf {f : Addr} {fd : FuncData} (F : Fun K "place_of" "place_of" sPlaceOf f fd) (T : Txt K mg CA CP CR) : FnOk P w K mg base CX0 1 f fd ["key", "j"] (spPlaceOf K) := by
  refine F.ok scPlaceOf (fun vs H Q E h => ?_) (fun cdv A outer s H vs Q E hr h => ?_)
  · obtain ⟨a, key, j, rfl, _⟩ := h
    rfl
  · obtain ⟨a, key, j, rfl, hS, hl, hj, k⟩ := h
    obtain ⟨t1, g1⟩ := T.pageCount
    refine ⟨_, pss_cons (ps_set (i := 2) scPlaceOf.nd rfl (Or.inl rfl) (pe_op op_add (pe_ix ix_list (pv 0) pe_int (fun _ _ => rfl)) (pe_op op_mul pe_int (pe_op op_mod (pe_ix ix_list (pv 0) pe_int (fun _ _ => rfl)) pe_int))))
      (pss_cons (ps_set (i := 3) scPlaceOf.nd rfl (Or.inl rfl) (pe_op op_add (pe_op op_mul pe_int (pe_ix ix_list (pv 0) pe_int (fun _ _ => rfl))) pe_int))
      (pss_one (ps_ret (pe_op op_mod (pe_op op_add (pv 2) (pe_op op_mul (pv 3) (pv 1))) (pe_glob (v := .int 1024) (by rfl) g1 ⟨_, rfl⟩))))), ?_⟩
    refine ⟨_, rfl, a, _, _, _, rfl, rfl, hS, at_of (j := 0) rfl (vI_at (by omega)), ?_⟩
    refine ⟨_, rfl, a, _, _, _, rfl, rfl, hS, at_of (j := 1) rfl (vI_at (by omega)), _, _, rfl, rfl, (by show (0 : Int) < 4; decide), _, _, rfl, rfl, .inl ⟨by decide, by decide⟩, _, _, rfl, rfl, ?_⟩
    refine ⟨_, rfl, a, _, _, _, rfl, rfl, hS, at_of (j := 2) rfl (vI_at (by omega)), _, _, rfl, rfl, .inl ⟨by decide, by decide⟩, _, _, rfl, rfl, ?_⟩
    refine ⟨_, rfl, _, rfl, _, rfl, _, _, rfl, rfl, .inr ⟨by omega, by omega⟩, _, _, rfl, rfl, _, _, rfl, rfl, (by show (0 : Int) < 1024; decide), ?_⟩
    have e : ((key.getD 0 0 : Nat) : Int) + 256 * (((key.getD 1 0 : Nat) : Int) % 4) + (2 * ((key.getD 2 0 : Nat) : Int) + 1) * (j : Int) = ((key.getD 0 0 + 256 * (key.getD 1 0 % 4) + (2 * key.getD 2 0 + 1) * j : Nat) : Int) := by
      push_cast
      rfl
    have e2 : (((key.getD 0 0 : Nat) : Int) + 256 * (((key.getD 1 0 : Nat) : Int) % 4) + (2 * ((key.getD 2 0 : Nat) : Int) + 1) * (j : Int)) % 1024 = ((G.place key j : Nat) : Int) := by
      rw [e, place_eq]
      rfl
    show Q (.int _) H
    rw [e2]
    exact k

/-! ### a comprehension over range whose items are whole numbers -/
theorem lc_nat {n k : Nat} {te : TE} {σ : L2.St} {H : Hp} {D : Addr} {Qd : Hp → Prop} (f : Nat → Nat) (hD : H D = none) (hn : n ≤ 1000)
    (hs : ∀ i, i < n → ∀ (H' : Hp), Same H H' → ∀ Q : VK, Q (.int (f i : Nat)) H' → te ((wipe σ [k]).set k (some (.int (i : Int)))) H' Q) (hd : Qd (upd H D (.lst (vI ((List.range n).map f))))) :
    ∃ W : Nat → Nat → Hp → Prop, (∃ m, W 0 m (upd H D (.lst []))) ∧ ∀ i m H, W i m H →
      ((Itr 0 n).stop i H ∧ Qd H) ∨ ((Itr 0 n).go i H ∧ ∃ Nx : Hp → Prop, (∀ H', Nx H' → ∃ m', m' < m ∧ W (i + 1) m' H') ∧ ∀ x H', (Itr 0 n).yld i H x H' → gName k x (wipe σ [k]) H' fun σ2 H2 => wipe σ2 [k] = wipe σ [k] ∧ tYes σ2 H2 fun b H3 =>
        if b = true then te σ2 H3 fun y H4 => ∃ acc, H4 D = some (.lst acc) ∧ acc.length < sizeLine ∧ Nx (upd H4 D (.lst (acc ++ [y]))) else Nx H3) := by
  refine lc_range (fun i H' => H' = upd H D (.lst (vI ((List.range i).map f)))) rfl (fun i H' hi e => ?_) (fun H' e => ?_)
  · subst e
    refine ⟨?_, ?_⟩
    · show ((σ.set k none).set k _).set k none = σ.set k none
      rw [List.set_set, List.set_set]
    · have e0 : (0 : Int) + (i : Int) = (i : Int) := Int.zero_add _
      rw [e0]
      refine iteT (B := upd H D (.lst (vI ((List.range i).map f))) = upd H D (.lst (vI ((List.range (i + 1)).map f)))) ?_
      refine hs i hi _ (Same.new hD) _ ⟨_, upd_same, ?_, ?_⟩
      · rw [vI_len, List.length_map, List.length_range]
        exact small1000 (by omega)
      · rw [upd_upd, List.range_succ, List.map_append, vI_app]
        rfl
  · subst e
    exact hd
/-! ### pad_of -/
def spPadOf (K : PySem.W.Frag) : Sp := fun vs H Q _ => ∃ (a b : Addr) (key salt : Bytes), vs = [.ref a, .ref b] ∧ SqL K H a (vI key) ∧ SqL K H b (vI salt) ∧ key.length = 32 ∧ salt.length = 16 ∧
  ∀ D, H D = none → Q (.ref D) (upd H D (.lst (vI (G.mix key salt))))
theorem scPadOf : FnScope ["key", "salt", "i"] ["key", "salt"] (defScope sPadOf) := ⟨rfl, rfl, rfl, by decide +kernel, rfl, by decide +kernel, by decide +kernel⟩
theorem ok_padOf {f : Addr} {fd : FuncData} (F : Fun K "pad_of" "pad_of" sPadOf f fd) (T : Txt K mg CA CP CR) : FnOk P w K mg base CX0 1 f fd ["key", "salt"] (spPadOf K) := by
  refine F.ok scPadOf (fun vs H Q E h => ?_) (fun cdv A outer s H vs Q E hr h => ?_)
  · obtain ⟨a, b, key, salt, rfl, _⟩ := h
    rfl
  · obtain ⟨a, b, key, salt, rfl, hS, hS2, hl, hl2, k⟩ := h
    obtain ⟨t1, g1⟩ := T.padBytes
    obtain ⟨t2, g2⟩ := T.keyBytes
    obtain ⟨t3, g3⟩ := T.saltBytes
    refine ⟨_, pss_one (ps_ret (pe_lc (own := [("i", 2)]) (g := gName 2) (tt := tYes) rfl scPadOf.nd (pi_range1 (by rfl) T.range (pa_cons (pe_glob (v := .int 80) (by rfl) g1 ⟨_, rfl⟩) pa_nil))
      (blkOk_by (own := [("i", 2)]) (N := ["key", "salt", "i"]) (sc := defScope sPadOf) (by decide +kernel)) (fun _ _ _ _ _ => pg_name (i := 2) scPadOf.nd rfl (Or.inl rfl)) (fun _ _ _ _ _ => pts_nil)
      (fun _ _ _ _ _ => pe_op op_mod (pe_op op_add (pe_op op_add (pe_op op_mul pe_int (pe_ix (r := rIxL K) ix_list (pv 0) (pe_op op_mod (pv 2) (pe_glob (v := .int 32) (by rfl) g2 ⟨_, rfl⟩)) (fun _ _ => rfl)))
        (pe_op op_mul pe_int (pe_ix (r := rIxL K) ix_list (pv 1) (pe_op op_mod (pv 2) (pe_glob (v := .int 16) (by rfl) g3 ⟨_, rfl⟩)) (fun _ _ => rfl)))) (pv 2)) pe_int))), ?_⟩
    refine ⟨80, rfl, by decide, by decide, fun D hD => lc_nat (n := 80) (fun i => (3 * key.getD (i % 32) 0 + 5 * salt.getD (i % 16) 0 + i) % 256) hD (by decide) (fun i hi H' hs Q' q => ?_) (k D hD)⟩
    refine ⟨_, rfl, _, rfl, _, _, rfl, rfl, (by show (0 : Int) < 32; decide), a, _, _, _, rfl, rfl, hs.seq hS, at_of (j := i % 32) (by rfl) (vI_at (by omega)), _, _, rfl, rfl, .inl ⟨by decide, by decide⟩, ?_⟩
    refine ⟨_, rfl, _, rfl, _, _, rfl, rfl, (by show (0 : Int) < 16; decide), b, _, _, _, rfl, rfl, hs.seq hS2, at_of (j := i % 16) (by rfl) (vI_at (by omega)), _, _, rfl, rfl, .inl ⟨by decide, by decide⟩, _, _, rfl, rfl, ?_⟩
    refine ⟨_, rfl, _, _, rfl, rfl, _, _, rfl, rfl, (by show (0 : Int) < 256; decide), ?_⟩
    exact q
end
end Hd

/-! ## part B2 -/
namespace Hd
open PySem PySem.Spec PyProof.Rows L2
open Ks190 (Medium Bytes)
theorem cut_nat (l : List Nat) {lo hi : Nat} (h1 : lo ≤ hi) (h2 : hi ≤ l.length) : cutV (vI l) (some (lo : Int)) (some (hi : Int)) = vI ((l.drop lo).take (hi - lo)) := by
  unfold cutV
  rw [HT.sIx_nat, HT.sIx_nat, vI_len, Nat.min_eq_left h2, Nat.min_eq_left (by omega), vI_drop, vI_take]
theorem cut_from (l : List Nat) {lo : Nat} (h1 : lo ≤ l.length) : cutV (vI l) (some (lo : Int)) none = vI (l.drop lo) := by
  unfold cutV
  rw [HT.sIx_nat, HT.sIx_none, vI_len, Nat.min_eq_left h1, vI_drop, vI_take, List.take_of_length_le (by rw [List.length_drop]; omega)]
theorem cut_to (l : List Nat) {hi : Nat} : cutV (vI l) none (some (hi : Int)) = vI (l.take hi) := by
  unfold cutV
  rw [HT.sIx_none, HT.sIx_nat, vI_len, Nat.sub_zero, List.drop_zero, vI_take]
  rcases Nat.lt_or_ge hi l.length with c | c
  · rw [Nat.min_eq_left (by omega)]
  · rw [Nat.min_eq_right c, List.take_of_length_le (Nat.le_refl _), List.take_of_length_le c]
section
variable {P : Program} {w : World} {K : PySem.W.Frag} {mg : Str → Option Value} {base : Heap} {CA CP CR : Addr}
/-! ### under_pad -/
def spUnder (K : PySem.W.Frag) : Sp := fun vs H Q _ => ∃ (a b : Addr) (row pad : Bytes), vs = [.ref a, .ref b] ∧ SqL K H a (vI row) ∧ SqL K H b (vI pad) ∧ row.length ≤ 1000 ∧
  ∀ D H', H D = none → Same H H' → H' D = some (.lst (vI (Ks190.xor row pad))) → Q (.ref D) H'
theorem scUnder : FnScope ["row", "pad", "byte", "over"] ["row", "pad"] (defScope sUnder) := ⟨rfl, rfl, rfl, by decide +kernel, rfl, by decide +kernel, by decide +kernel⟩
theorem xor_get {row pad : Bytes} {i : Nat} {x y : V} (hx : (vI row)[i]? = some x) (hy : (vI pad)[i]? = some y) : ∃ a b : Nat, x = .int (a : Int) ∧ y = .int (b : Int) ∧ (Ks190.xor row pad)[i]? = some (a ^^^ b) := by
  rw [vI_get] at hx hy
  obtain ⟨a, ha, rfl⟩ := Option.map_eq_some_iff.mp hx
  obtain ⟨b, hb, rfl⟩ := Option.map_eq_some_iff.mp hy
  refine ⟨a, b, rfl, rfl, ?_⟩
  show (List.zipWith _ row pad)[i]? = _
  rw [List.getElem?_zipWith, ha, hb]
theorem take_more {α : Type} : ∀ {l : List α} {i : Nat} {x : α}, l[i]? = some x → l.take (i + 1) = l.take i ++ [x]
  | [], i, x, h => by simp at h
  | a :: l, 0, x, h => by
    have e : a = x := Option.some.inj h
    subst e
    rfl
  | a :: l, i + 1, x, h => by
    have ih := take_more (l := l) (i := i) (x := x) h
    show a :: l.take (i + 1) = a :: l.take i ++ [x]
    rw [ih]
    rfl
theorem ok_under {f : Addr} {fd : FuncData} (F : Fun K "under_pad" "under_pad" sUnder f fd) (T : Txt K mg CA CP CR) : FnOk P w K mg base CX0 1 f fd ["row", "pad"] (spUnder K) := by
  refine F.ok scUnder (fun vs H Q E h => ?_) (fun cdv A outer s H vs Q E hr h => ?_)
  · obtain ⟨a, b, row, pad, rfl, _⟩ := h
    rfl
  · obtain ⟨a, b, row, pad, rfl, hS, hS2, hl, k⟩ := h
    refine ⟨_, pss_one (ps_ret (pe_lc (own := [("byte", 2), ("over", 3)]) (g := gTup K 2 (gCons (gName 2) (gCons (gName 3) gNil))) (tt := tYes) rfl scUnder.nd (pi_zip (by rfl) T.zip (pa_cons (pv 0) (pa_cons (pv 1) pa_nil)))
      (blkOk_by (own := [("byte", 2), ("over", 3)]) (N := ["row", "pad", "byte", "over"]) (sc := defScope sUnder) (by decide +kernel))
      (fun _ _ _ _ _ => pg_tup rfl (pgs_cons (pg_name (i := 2) scUnder.nd rfl (Or.inl rfl)) (pgs_cons (pg_name (i := 3) scUnder.nd rfl (Or.inl rfl)) pgs_nil))) (fun _ _ _ _ _ => pts_nil)
      (fun _ _ _ _ _ => pe_op op_xor (pv 2) (pv 3)))), ?_⟩
    refine ⟨_, rfl, _, rfl, a, b, vI row, vI pad, rfl, hS, hS2, fun D hD => lc_it (walk_zip (K := K) (xs := vI row) (ys := vI pad) rfl) (fun i H' => Same H H' ∧ H' D = some (.lst (vI ((Ks190.xor row pad).take i)))) ⟨Same.new hD, upd_same⟩ (fun i H' _ p => ⟨p.1.seq hS, p.1.seq hS2⟩) ?_ ?_⟩
    · rintro i v H1 H2 hi ⟨s1, d1⟩ ⟨T1, x, y, rfl, hT, rfl, hx, hy⟩
      obtain ⟨m, n, rfl, rfl, hz⟩ := xor_get hx hy
      refine ⟨T1, _, rfl, SqT.of upd_same, rfl, _, _, rfl, _, _, rfl, rfl, rfl, ?_⟩
      refine ⟨_, rfl, _, rfl, _, _, rfl, rfl, _, by rw [upd_ne (ne_of_none d1 hT)]; exact d1, ?_, ?_, ?_⟩
      · rw [vI_len, List.length_take]
        refine small1000 (Nat.le_trans (Nat.min_le_right _ _) ?_)
        rw [xor_len]
        omega
      · have s2 : Same H (upd H1 T1 (.tup [V.int (m : Int), V.int (n : Int)])) := s1.trans (Same.new hT)
        exact Same.mut s2 hD
      · have ex : Builtin.bitXor (m : Int) (n : Int) = ((m ^^^ n : Nat) : Int) := Bits.bitXor_pp (Int.natCast_nonneg _) (Int.natCast_nonneg _)
        rw [upd_same, take_more hz, vI_app]
        show some (HO.lst (_ ++ [V.int (Builtin.bitXor (m : Int) (n : Int))])) = _
        rw [ex]
        rfl
    · rintro H1 ⟨s1, d1⟩
      refine k D H1 hD s1 ?_
      rw [d1, List.take_of_length_le]
      rw [xor_len, vI_len, vI_len]
      exact Nat.le_refl _
/-! ### keys_of -/
def spKeysOf (K : PySem.W.Frag) : Sp := fun vs H Q _ => ∃ (a : Addr) (row : Bytes), vs = [.ref a] ∧ SqL K H a (vI row) ∧ row.length ≤ 100000 ∧
  ∀ D H' rs, H D = none → Same H H' → H' D = some (.lst rs) → Items H' (fun l => H l = none) rs (keysN row) → Q (.ref D) H'
theorem scKeysOf : FnScope ["row", "k"] ["row"] (defScope sKeysOf) := ⟨rfl, rfl, rfl, by decide +kernel, rfl, by decide +kernel, by decide +kernel⟩
theorem ok_keysOf {f : Addr} {fd : FuncData} (F : Fun K "keys_of" "keys_of" sKeysOf f fd) (T : Txt K mg CA CP CR) : FnOk P w K mg base CX0 1 f fd ["row"] (spKeysOf K) := by
  refine F.ok scKeysOf (fun vs H Q E h => ?_) (fun cdv A outer s H vs Q E hr h => ?_)
  · obtain ⟨a, row, rfl, _⟩ := h
    rfl
  · obtain ⟨a, row, rfl, hS, hl, k⟩ := h
    obtain ⟨t1, g1⟩ := T.keyBytes
    refine ⟨_, pss_one (ps_ret (pe_lc (own := [("k", 1)]) (g := gName 1) (tt := tYes) rfl scKeysOf.nd (pi_range1 (by rfl) T.range (pa_cons (pe_op op_fdiv (pe_callB call_len (by rfl) T.len PySem.boot_len (pa_cons (pv 0) pa_nil)) (pe_glob (v := .int 32) (by rfl) g1 ⟨_, rfl⟩)) pa_nil))
      (blkOk_by (own := [("k", 1)]) (N := ["row", "k"]) (sc := defScope sKeysOf) (by decide +kernel))
      (fun _ _ _ _ _ => pg_name (i := 1) scKeysOf.nd rfl (Or.inl rfl)) (fun _ _ _ _ _ => pts_nil)
      (fun _ _ _ _ _ => pe_slice (r := rSlL K) sl_list (pv 0) (po_some (pe_op op_mul (pv 1) (pe_glob (v := .int 32) (by rfl) g1 ⟨_, rfl⟩))) (po_some (pe_op op_mul (pe_op op_add (pv 1) pe_int) (pe_glob (v := .int 32) (by rfl) g1 ⟨_, rfl⟩)))))), ?_⟩
    have hlr : ((vI row).length : Int) = (row.length : Int) := by rw [vI_len]
    refine ⟨_, rfl, _, _, rfl, .inl ⟨_, hS, rfl⟩, _, _, rfl, rfl, ⟨by decide, by decide⟩, ((row.length : Int) / 32), ?_, by omega, by omega, ?_⟩
    · rw [hlr]
    intro D hD
    refine lc_range (lo := 0) (n := ((row.length : Int) / 32).toNat) (fun i H' => Same H H' ∧ ∃ rs, H' D = some (.lst rs) ∧ Items H' (fun l => H l = none ∧ l ≠ D) rs ((keysN row).take i)) ⟨Same.new hD, [], upd_same, Items.nil⟩ ?_ ?_
    · rintro i H1 hi ⟨s1, rs, d1, it⟩
      refine ⟨rfl, ?_⟩
      have hi2 : i < row.length / 32 := by omega
      have e0 : ((0 : Int) + (i : Int)) * 32 = ((32 * i : Nat) : Int) := by omega
      have e1 : ((0 : Int) + (i : Int) + 1) * 32 = ((32 * i + 32 : Nat) : Int) := by omega
      refine ⟨_, rfl, _, rfl, _, _, rfl, rfl, .inr ⟨by decide, by decide⟩, _, rfl, _, rfl, _, _, rfl, rfl, _, _, rfl, rfl, .inr ⟨by decide, by decide⟩, _, rfl, ?_⟩
      refine ⟨a, _, rfl, s1.seq hS, fun p hp => ?_⟩
      rw [e0, e1, cut_nat row (by omega) (by omega), show 32 * i + 32 - 32 * i = 32 by omega]
      have hDp : D ≠ p := ne_of_none d1 hp
      refine ⟨rs, by rw [upd_ne hDp]; exact d1, ?_, Same.mut (s1.trans (Same.new hp)) hD, rs ++ [.ref p], upd_same, ?_⟩
      · rw [it.1]
        refine Nat.lt_of_le_of_lt (List.length_take_le _ _) ?_
        have hsz := sizeLine_eq
        omega
      · have hk : (keysN row)[i]? = some ((row.drop (32 * i)).take 32) := by
          unfold keysN
          rw [List.getElem?_map, List.getElem?_range hi2]
          rfl
        rw [take_more hk]
        refine Items.snoc (it.mono fun l o z e => ⟨z, ?_⟩) ⟨s1.free hp, hDp.symm⟩ ?_
        · rw [upd_ne z.2, upd_ne (ne_of_none e hp)]
          exact e
        · rw [upd_ne hDp.symm, upd_same]
    · rintro H1 ⟨s1, rs, d1, it⟩
      refine k D H1 rs hD s1 d1 ?_
      have hlen : (keysN row).length = ((row.length : Int) / 32).toNat := by
        unfold keysN
        rw [List.length_map, List.length_range]
        omega
      rw [← hlen, List.take_of_length_le (Nat.le_refl _)] at it
      exact it.mono fun l o z e => ⟨z.1, e⟩
/-! ### is_refused -/
def spRefused (K : PySem.W.Frag) : Sp := fun vs H Q _ => ∃ (slot : Nat) (ks : Addr) (rs : List V), vs = [.int (slot : Int), .ref ks] ∧ SqL K H ks rs ∧ Q (.bl (refused rs.length slot)) H
theorem scRefused : FnScope ["slot", "keys"] ["slot", "keys"] (defScope sRefused) := ⟨rfl, rfl, rfl, by decide +kernel, rfl, by decide +kernel, by decide +kernel⟩
theorem ok_refused {f : Addr} {fd : FuncData} (F : Fun K "is_refused" "is_refused" sRefused f fd) (T : Txt K mg CA CP CR) : FnOk P w K mg base CX0 1 f fd ["slot", "keys"] (spRefused K) := by
  refine F.ok scRefused (fun vs H Q E h => ?_) (fun cdv A outer s H vs Q E hr h => ?_)
  · obtain ⟨slot, ks, rs, rfl, _⟩ := h
    rfl
  · obtain ⟨slot, ks, rs, rfl, hS, k⟩ := h
    obtain ⟨t1, g1⟩ := T.keysMost
    obtain ⟨t2, g2⟩ := T.slotCount
    refine ⟨_, pss_one (ps_ret (pe_or (pe_cmpR op_lt (pe_callB call_len (by rfl) T.len PySem.boot_len (pa_cons (pv 1) pa_nil)) pe_int (nomark _))
      (pe_or (pe_cmpR op_gt (pe_callB call_len (by rfl) T.len PySem.boot_len (pa_cons (pv 1) pa_nil)) (pe_glob (v := .int 4) (by rfl) g1 ⟨_, rfl⟩) (nomark _))
      (pe_one (pe_cmpR op_ge (pv 0) (pe_glob (v := .int 64) (by rfl) g2 ⟨_, rfl⟩) (nomark _)))))), ?_⟩
    have r : ∀ b, refused rs.length slot = b → Q (.bl b) H := fun b e => e ▸ k
    refine ⟨_, rfl, _, _, rfl, .inl ⟨_, hS, rfl⟩, _, _, rfl, rfl, _, rfl, ?_⟩
    refine ite2 (fun h1 => ?_) (fun h1 => ?_)
    · have h1 := of_decide_eq_true h1
      refine r true ?_
      unfold refused
      rw [decide_eq_true (show rs.length < 1 by omega)]
      rfl
    have h1 : ¬ rs.length < 1 := fun z => h1 (decide_eq_true (by omega))
    refine ⟨_, rfl, _, _, rfl, .inl ⟨_, hS, rfl⟩, _, _, rfl, rfl, _, rfl, ?_⟩
    refine ite2 (fun h2 => ?_) (fun h2 => ?_)
    · have h2 := of_decide_eq_true h2
      refine r true ?_
      unfold refused
      rw [decide_eq_false h1, decide_eq_true (show 4 < rs.length by omega)]
      rfl
    have h2 : ¬ 4 < rs.length := fun z => h2 (decide_eq_true (by omega))
    refine ⟨_, rfl, _, _, rfl, rfl, ?_⟩
    refine r _ ?_
    unfold refused
    rw [decide_eq_false h1, decide_eq_false h2]
    show decide (64 ≤ slot) = decide ((64 : Int) ≤ (slot : Int))
    by_cases c : 64 ≤ slot
    · rw [decide_eq_true c, decide_eq_true (by omega)]
    · rw [decide_eq_false c, decide_eq_false (by omega)]
end
end Hd

/-! ## part B3 -/
namespace Hd
open PySem PySem.Spec PyProof.Rows L2
open Ks190 (Medium Bytes)
section
variable {P : Program} {w : World} {K : PySem.W.Frag} {mg : Str → Option Value} {base : Heap} {CA CP CR : Addr}
theorem pe_fldK {X : Cx} {K : PySem.W.Frag} {e : Expr} {f : Str} {pos : Pos} {ta : TE} (hK : X.K = K) (he : PE X e ta) (hb : attributeBase e f X.env (eval e X.env) = eval e X.env) : PE X (.Attribute e f pos) (tFld K ta f) := by
  subst hK
  exact pe_fld he hb
/-! ### Pages -/
def spPInit (CP : Addr) : Sp := fun vs H Q _ => ∃ (p dx : Addr), vs = [.ref p] ∧ H p = some (.ins CP dx []) ∧
  ∀ (H' : Hp) (S : Reg), PagesAt CP H' p S Ks190Neutral.start 0 → Keep (fun b => b = p) H H' → Grow (fun b => b = p) H S → Q .non H'
theorem scPInit : FnScope ["self"] ["self"] (defScope sPInit) := ⟨rfl, rfl, rfl, by decide +kernel, rfl, by decide +kernel, by decide +kernel⟩
theorem ok_pInit {f : Addr} {fd : FuncData} (F : Fun K "__init__" "Pages.__init__" sPInit f fd) (T : Txt K mg CA CP CR) : FnOk P w K mg base CX0 1 f fd ["self"] (spPInit CP) := by
  refine F.ok scPInit (fun vs H Q E h => ?_) (fun cdv A outer s H vs Q E hr h => ?_)
  · obtain ⟨p, dx, rfl, _⟩ := h
    rfl
  · obtain ⟨p, dx, rfl, hp, k⟩ := h
    refine ⟨_, pss_cons (ps_fld (pv 0) pe_non rfl) (pss_one (ps_fld (pv 0) pe_dnewK rfl)), ?_⟩
    refine ⟨_, rfl, p, CP, dx, [], rfl, hp, T.cP, T.pFilling, (by show 0 < 1000; decide), ?_⟩
    intro dd hdd
    have npd : p ≠ dd := ne_of_none upd_same hdd
    have hdd0 : H dd = none := by
      rw [upd_ne npd.symm] at hdd
      exact hdd
    refine ⟨_, rfl, p, CP, dx, _, rfl, (by rw [upd_ne npd]; exact upd_same), T.cP, T.pWritten, (by show 1 < 1000; decide), ?_⟩
    refine k _ (fun b => b = p ∨ b = dd) ⟨dx, dd, [], .non, Eq.trans upd_same (congrArg (fun z => some (HO.ins CP dx z)) (pF_new .non dd)), by rw [upd_ne npd.symm]; exact upd_same, .inl rfl, .inr rfl, fun b z => ?_, Nat.le_refl _, fun q _ => ?_, fun q _ => .inl ⟨rfl, rfl⟩⟩ (fun b o e n => ?_) fun b z => ?_
    · rcases z with z | z
      · subst z
        exact ⟨_, upd_same⟩
      · subst z
        exact ⟨_, by rw [upd_ne npd.symm]; exact upd_same⟩
    · exact List.length_replicate
    · have n : b ≠ p := n
      rw [upd_ne n, upd_ne (ne_of_none e hdd0), upd_ne n]
      exact e
    · rcases z with z | z
      · exact .inl z
      · exact .inr (by rw [z]; exact hdd0)
def spFill (CP : Addr) : Sp := fun vs H Q _ => ∃ (p : Addr) (seed : Nat) (S : Reg) (d : Medium) (n : Nat), vs = [.ref p, .int (seed : Int)] ∧ PagesAt CP H p S d n ∧
  ∀ (H' : Hp) (S' : Reg), PagesAt CP H' p S' (fun q => seeded seed q) 0 → Keep S H H' → Grow S H S' → Q .non H'
theorem scFill : FnScope ["self", "seed"] ["self", "seed"] (defScope sFill) := ⟨rfl, rfl, rfl, by decide +kernel, rfl, by decide +kernel, by decide +kernel⟩
theorem ok_fill {f : Addr} {fd : FuncData} (F : Fun K "fill" "Pages.fill" sFill f fd) (T : Txt K mg CA CP CR) : FnOk P w K mg base CX0 1 f fd ["self", "seed"] (spFill CP) := by
  refine F.ok scFill (fun vs H Q E h => ?_) (fun cdv A outer s H vs Q E hr h => ?_)
  · obtain ⟨p, seed, S, d, n, rfl, _⟩ := h
    rfl
  · obtain ⟨p, seed, S, d, n, rfl, ⟨dx, d0, kvs, fv, B⟩, k⟩ := h
    refine ⟨_, pss_cons (ps_fld (pv 0) (pv 1) rfl) (pss_one (ps_fld (pv 0) pe_dnewK rfl)), ?_⟩
    refine ⟨_, rfl, _, rfl, p, CP, dx, _, rfl, B.ob, T.cP, T.pFilling, (by show 2 < 1000; decide), ?_⟩
    intro dd hdd
    have npd : p ≠ dd := ne_of_none upd_same hdd
    have hdd0 : H dd = none := by
      rw [upd_ne npd.symm] at hdd
      exact hdd
    refine ⟨_, rfl, p, CP, dx, _, rfl, (by rw [upd_ne npd]; exact upd_same), T.cP, T.pWritten, (by rw [pF_put1]; show 2 < 1000; decide), ?_⟩
    refine k _ (fun b => b = p ∨ b = dd) ⟨dx, dd, [], .int (seed : Int), Eq.trans upd_same (congrArg (fun z => some (HO.ins CP dx z)) (by rw [pF_put1, pF_put2])), by rw [upd_ne npd.symm]; exact upd_same, .inl rfl, .inr rfl, fun b z => ?_, Nat.le_refl _, fun q _ => ?_, fun q _ => .inr ⟨seed, rfl, rfl⟩⟩ (fun b o e n => ?_) fun b z => ?_
    · rcases z with z | z
      · subst z
        exact ⟨_, upd_same⟩
      · subst z
        exact ⟨_, by rw [upd_ne npd.symm]; exact upd_same⟩
    · show ((List.range 96).map _).length = 96
      rw [List.length_map, List.length_range]
    · have n : b ≠ p := fun z => n (by rw [z]; exact B.sp)
      rw [upd_ne n, upd_ne (ne_of_none e hdd0), upd_ne n]
      exact e
    · rcases z with z | z
      · exact .inl (by rw [z]; exact B.sp)
      · exact .inr (by rw [z]; exact hdd0)
/-- a page written -/
def wr (d : Medium) (place : Nat) (b : Bytes) : Medium := fun q => if q = place then b else d q
def spStore (K : PySem.W.Frag) (CP : Addr) : Sp := fun vs H Q _ => ∃ (p c : Addr) (place : Nat) (b : Bytes) (S : Reg) (d : Medium) (n : Nat), vs = [.ref p, .int (place : Int), .ref c] ∧ PagesAt CP H p S d n ∧ SqL K H c (vI b) ∧ b.length = 96 ∧ n < 100000 ∧
  ∀ (H' : Hp) (S' : Reg), PagesAt CP H' p S' (wr d place b) (n + 1) → Keep S H H' → Grow S H S' → Q .non H'
theorem scStore : FnScope ["self", "place", "content"] ["self", "place", "content"] (defScope sStore) := ⟨rfl, rfl, rfl, by decide +kernel, rfl, by decide +kernel, by decide +kernel⟩
theorem ok_store {f : Addr} {fd : FuncData} (F : Fun K "store" "Pages.store" sStore f fd) (T : Txt K mg CA CP CR) : FnOk P w K mg base CX0 1 f fd ["self", "place", "content"] (spStore K CP) := by
  refine F.ok scStore (fun vs H Q E h => ?_) (fun cdv A outer s H vs Q E hr h => ?_)
  · obtain ⟨p, c, place, b, S, d, n, rfl, _⟩ := h
    rfl
  · obtain ⟨p, c, place, b, S, d, n, rfl, ⟨dx, dd, kvs, fv, B⟩, hS, hb, hn, k⟩ := h
    have hu := hu_of hr
    refine ⟨_, pss_one (ps_dput hu (pe_fld (pv 0) rfl) (pv 1) (pe_callTy call_list_of (by rfl) T.list (by decide +kernel) (pa_cons (pv 2) pa_nil)) rfl), ?_⟩
    refine ⟨_, rfl, c, _, rfl, .inl hS, fun l hl => ?_⟩
    have pl : p ≠ l := ne_of_none B.ob hl
    have dl : dd ≠ l := ne_of_none B.dc hl
    have pd : p ≠ dd := ne_of B.ob B.dc fun z => by cases z
    have nS : ¬ S l := fun z => by
      obtain ⟨o, e⟩ := B.all l z
      rw [e] at hl
      cases hl
    have hsz := sizeLine_eq
    refine ⟨_, rfl, p, CP, dx, _, _, rfl, (by rw [upd_ne pl]; exact B.ob), T.cP, T.pWritten, pF_written _ _, _, rfl, dd, _, rfl, DPut.k (k := Sum.inl (place : Int)) (by rw [upd_ne dl]; exact B.dc) (by have := B.few; omega), ?_⟩
    refine k _ (fun z => S z ∨ z = l) ⟨dx, dd, putK kvs (Sum.inl (place : Int)) (.ref l), fv, ?_, upd_same, .inl B.sp, .inl B.sd, fun z h => ?_, ?_, fun q hq => ?_, fun q hq => ?_⟩ (fun z o e ns => ?_) fun z h => ?_
    · rw [upd_ne pd, upd_ne pl]
      exact B.ob
    · by_cases zd : z = dd
      · exact ⟨_, by rw [zd]; exact upd_same⟩
      · rw [upd_ne zd]
        rcases h with h | h
        · obtain ⟨o, e⟩ := B.all z h
          exact ⟨o, by rw [upd_ne (ne_of_none e hl)]; exact e⟩
        · exact ⟨_, by rw [h]; exact upd_same⟩
    · have := length_putK kvs (Sum.inl (place : Int) : Key) (.ref l)
      have := B.few
      omega
    · show (if q = place then b else d q).length = 96
      split
      · exact hb
      · exact B.len q hq
    · rw [valV_put]
      by_cases c1 : q = place
      · subst c1
        rw [if_pos rfl]
        refine ⟨l, rfl, .inr rfl, ?_⟩
        show _ = some (HO.lst (vI (if q = q then b else d q)))
        rw [if_pos rfl, upd_ne dl.symm]
        exact upd_same
      · have c2 : ¬ (Sum.inl (q : Int) : Key) = Sum.inl (place : Int) := fun z => c1 (by injection z with z; omega)
        rw [if_neg c2]
        have z := B.at_ q hq
        have e : wr d place b q = d q := if_neg c1
        rw [e]
        split at z
        · rename_i v hv
          obtain ⟨l2, e1, e2, e3⟩ := z
          refine ⟨l2, e1, .inl e2, ?_⟩
          rw [upd_ne (ne_of e3 B.dc fun z => by cases z), upd_ne (ne_of_none e3 hl)]
          exact e3
        · exact z
    · have zd : z ≠ dd := fun h => ns (by rw [h]; exact B.sd)
      rw [upd_ne zd, upd_ne (ne_of_none e hl)]
      exact e
    · rcases h with h | h
      · exact .inl h
      · exact .inr (by rw [h]; exact hl)
def spShow (CP : Addr) : Sp := fun vs H Q _ => ∃ (p : Addr) (place : Nat) (S : Reg) (d : Medium) (n : Nat), vs = [.ref p, .int (place : Int)] ∧ PagesAt CP H p S d n ∧ place < 1024 ∧
  ∀ (D : Addr) (H' : Hp), H D = none → Same H H' → H' D = some (.lst (vI (d place))) → Q (.ref D) H'
theorem scShow : FnScope ["self", "place", "i"] ["self", "place"] (defScope sShow) := ⟨rfl, rfl, rfl, by decide +kernel, rfl, by decide +kernel, by decide +kernel⟩
theorem zeros_rep : (List.replicate (96 : Int).toNat [V.int 0]).flatten = vI (Ks190.zeros 96) := by decide +kernel
theorem ok_show {f : Addr} {fd : FuncData} (F : Fun K "show" "Pages.show" sShow f fd) (T : Txt K mg CA CP CR) : FnOk P w K mg base CX0 1 f fd ["self", "place"] (spShow CP) := by
  refine F.ok scShow (fun vs H Q E h => ?_) (fun cdv A outer s H vs Q E hr h => ?_)
  · obtain ⟨p, place, S, d, n, rfl, _⟩ := h
    rfl
  · obtain ⟨p, place, S, d, n, rfl, ⟨dx, dd, kvs, fv, B⟩, hpl, k⟩ := h
    have hu := hu_of hr
    obtain ⟨t1, g1⟩ := T.pageBytes
    refine ⟨_, pss_cons (ps_if (pt_cmp (pc_din hu (pv 1) (pe_fld (pv 0) rfl))) (pss_one (ps_ret (pe_callTy call_list_of (by rfl) T.list (by decide +kernel) (pa_cons (pe_dget hu (pe_fld (pv 0) rfl) (pv 1) (fun _ _ => rfl)) pa_nil)))) pss_nil)
      (pss_cons (ps_if (pt_cmp (pc_isN (pe_fld (pv 0) rfl))) (pss_one (ps_ret (pe_op op_rep (pe_lst (pa_cons pe_int pa_nil)) (pe_glob (v := .int 96) (by rfl) g1 ⟨_, rfl⟩)))) pss_nil)
      (pss_one (ps_ret (pe_lc (own := [("i", 2)]) (g := gName 2) (tt := tYes) rfl scShow.nd (pi_range1 (by rfl) T.range (pa_cons (pe_glob (v := .int 96) (by rfl) g1 ⟨_, rfl⟩) pa_nil))
        (blkOk_by (own := [("i", 2)]) (N := ["self", "place", "i"]) (sc := defScope sShow) (by decide +kernel))
        (fun _ _ _ _ _ => pg_name (i := 2) scShow.nd rfl (Or.inl rfl)) (fun _ _ _ _ _ => pts_nil)
        (fun _ _ _ _ _ => pe_op op_mod (pe_op op_add (pe_op op_add (pe_fldK (K := K) rfl (pv 0) rfl) (pe_op op_mul pe_int (pv 1))) (pe_op op_mul pe_int (pv 2))) pe_int))))), ?_⟩
    have z := B.at_ place hpl
    refine ⟨_, rfl, _, rfl, p, CP, dx, _, _, rfl, B.ob, T.cP, T.pWritten, pF_written _ _, dd, _, rfl, DGet.k (k := Sum.inl (place : Int)) B.dc, _, rfl, ?_⟩
    cases e : valV kvs (Sum.inl (place : Int) : Key) with
    | some v =>
      rw [e] at z
      obtain ⟨l, rfl, sl, hl⟩ := z
      refine iteT ?_
      refine ⟨_, rfl, p, CP, dx, _, _, rfl, B.ob, T.cP, T.pWritten, pF_written _ _, _, rfl, dd, .ref l, rfl, .inl ⟨kvs, Sum.inl (place : Int), .inl B.dc, rfl, e.symm⟩, l, _, rfl, .inl (SqL.of hl), fun D hD => ?_⟩
      exact k D _ hD (Same.new hD) upd_same
    | none =>
      rw [e] at z
      refine iteF ?_
      refine ⟨_, rfl, p, CP, dx, _, _, rfl, B.ob, T.cP, T.pFilling, pF_filling _ _, _, rfl, ?_⟩
      rcases z with ⟨rfl, hz⟩ | ⟨seed, rfl, hz⟩
      · refine iteT (B := _) ?_
        refine ⟨by show 1 ≤ sizeLine; decide, fun l hl => ?_⟩
        refine ⟨l, 96, _, rfl, rfl, upd_same, by decide, by decide, by show 1 * 96 ≤ sizeLine; decide, fun D hD => ?_⟩
        have hD0 : H D = none := (Same.new hl).free hD
        refine k D _ hD0 ((Same.new hl).trans (Same.new hD)) ?_
        rw [upd_same, zeros_rep, hz]
      · refine iteF (A := _) ?_
        refine ⟨96, rfl, by decide, by decide, fun D hD => lc_nat (n := 96) (fun i => (seed + 7 * place + 13 * i) % 256) hD (by decide) (fun i hi H' hs Q' q => ?_) ?_⟩
        · refine ⟨_, rfl, p, CP, dx, _, _, rfl, hs _ _ B.ob, T.cP, T.pFilling, pF_filling _ _, _, rfl, _, _, rfl, rfl, .inl ⟨by decide, by decide⟩, _, _, rfl, rfl, ?_⟩
          refine ⟨_, rfl, _, _, rfl, rfl, .inl ⟨by decide, by decide⟩, _, _, rfl, rfl, _, _, rfl, rfl, (by show (0 : Int) < 256; decide), ?_⟩
          exact q
        · refine k D _ hD (Same.new hD) ?_
          rw [upd_same, hz]
          rfl
end
end Hd

/-! ## part B4 -/
namespace Hd
open PySem PySem.Spec PyProof.Rows L2
open Ks190 (Medium Bytes)
/-! ### Reader -/
def rF (a : Addr) (i : Int) : List (Str × V) := [("numbers", .ref a), ("at", .int i)]
theorem rF_numbers (a : Addr) (i : Int) : (rF a i).lookup ("numbers" : Str) = some (.ref a) := lk_here
theorem rF_at (a : Addr) (i : Int) : (rF a i).lookup ("at" : Str) = some (.int i) := (lk_past (by decide +kernel)).trans lk_here
theorem rF_no (a : Addr) (i : Int) {m : Str} (h1 : (m == ("numbers" : Str)) = false) (h2 : (m == ("at" : Str)) = false) : (rF a i).lookup m = none := (lk_past h1).trans ((lk_past h2).trans rfl)
theorem rF_new (a : Addr) (i : Int) : putF "at" (.int i) (putF "numbers" (.ref a) []) = rF a i := (put_past (by decide +kernel)).trans rfl
theorem rF_put (a : Addr) (i j : Int) : putF "at" (.int j) (rF a i) = rF a j := (put_past (by decide +kernel)).trans (congrArg _ put_here)
def RdAt (CR : Addr) (H : Hp) (r a : Addr) (i : Nat) : Prop := ∃ dx, H r = some (.ins CR dx (rF a (i : Int)))
abbrev Only (r : Addr) : Reg := fun b => b = r
theorem SqL.only {K : PySem.W.Frag} {H H' : Hp} {r a C dx : Addr} {fs : List (Str × V)} {xs : List V} (k : Keep (Only r) H H') (hr : H r = some (.ins C dx fs)) (h : SqL K H a xs) : SqL K H' a xs := by
  rcases h with (h | ⟨o, h⟩) | h
  · exact .inl (.inl (k _ _ h (ne_of h hr fun z => by cases z)))
  · exact .inl (.inr ⟨o, k _ _ h (ne_of h hr fun z => by cases z)⟩)
  · exact .inr h
theorem Keep.only_upd {H : Hp} {r : Addr} {o : HO} : Keep (Only r) H (upd H r o) := fun b u e n => by
  rw [upd_ne n]
  exact e
section
variable {P : Program} {w : World} {K : PySem.W.Frag} {mg : Str → Option Value} {base : Heap} {CA CP CR : Addr}
def spRInit (CR : Addr) : Sp := fun vs H Q _ => ∃ (r dx a : Addr), vs = [.ref r, .ref a] ∧ H r = some (.ins CR dx []) ∧ ∀ H' : Hp, RdAt CR H' r a 0 → Keep (Only r) H H' → Q .non H'
theorem scRInit : FnScope ["self", "numbers"] ["self", "numbers"] (defScope sRInit) := ⟨rfl, rfl, rfl, by decide +kernel, rfl, by decide +kernel, by decide +kernel⟩
theorem ok_rInit {f : Addr} {fd : FuncData} (F : Fun K "__init__" "Reader.__init__" sRInit f fd) (T : Txt K mg CA CP CR) : FnOk P w K mg base CX0 1 f fd ["self", "numbers"] (spRInit CR) := by
  refine F.ok scRInit (fun vs H Q E h => ?_) (fun cdv A outer s H vs Q E hr h => ?_)
  · obtain ⟨r, dx, a, rfl, _⟩ := h
    rfl
  · obtain ⟨r, dx, a, rfl, hp, k⟩ := h
    refine ⟨_, pss_cons (ps_fld (pv 0) (pv 1) rfl) (pss_one (ps_fld (pv 0) pe_int rfl)), ?_⟩
    refine ⟨_, rfl, _, rfl, r, CR, dx, [], rfl, hp, T.cR, T.rNumbers, (by show 0 < 1000; decide), ?_⟩
    refine ⟨_, rfl, r, CR, dx, _, rfl, upd_same, T.cR, T.rAt, (by show 1 < 1000; decide), ?_⟩
    refine k _ ⟨dx, Eq.trans upd_same (congrArg (fun z => some (HO.ins CR dx z)) (rF_new a 0))⟩ fun b o e n => ?_
    rw [upd_ne n, upd_ne n]
    exact e
def spMore (K : PySem.W.Frag) (CR : Addr) : Sp := fun vs H Q _ => ∃ (r a : Addr) (i : Nat) (ns : List Nat), vs = [.ref r] ∧ RdAt CR H r a i ∧ SqL K H a (vI ns) ∧ Q (.bl (decide (i < ns.length))) H
theorem scMore : FnScope ["self"] ["self"] (defScope sMore) := ⟨rfl, rfl, rfl, by decide +kernel, rfl, by decide +kernel, by decide +kernel⟩
theorem ok_more {f : Addr} {fd : FuncData} (F : Fun K "has_more" "Reader.has_more" sMore f fd) (T : Txt K mg CA CP CR) : FnOk P w K mg base CX0 1 f fd ["self"] (spMore K CR) := by
  refine F.ok scMore (fun vs H Q E h => ?_) (fun cdv A outer s H vs Q E hr h => ?_)
  · obtain ⟨r, a, i, ns, rfl, _⟩ := h
    rfl
  · obtain ⟨r, a, i, ns, rfl, ⟨dx, h1⟩, hS, k⟩ := h
    refine ⟨_, pss_one (ps_ret (pe_cmpR op_lt (pe_fld (pv 0) rfl) (pe_callB call_len (by rfl) T.len PySem.boot_len (pa_cons (pe_fld (pv 0) rfl) pa_nil)) (nomark _))), ?_⟩
    refine ⟨_, rfl, r, CR, dx, _, _, rfl, h1, T.cR, T.rAt, rF_at _ _, _, rfl, r, CR, dx, _, _, rfl, h1, T.cR, T.rNumbers, rF_numbers _ _, _, _, rfl, .inl ⟨_, hS, rfl⟩, _, _, rfl, rfl, ?_⟩
    have e : decide (i < ns.length) = decide ((i : Int) < ((vI ns).length : Int)) := by
      rw [vI_len]
      by_cases c : i < ns.length
      · rw [decide_eq_true c, decide_eq_true (by omega)]
      · rw [decide_eq_false c, decide_eq_false (by omega)]
    rw [e] at k
    exact k
def spNumber (K : PySem.W.Frag) (CR : Addr) : Sp := fun vs H Q _ => ∃ (r a : Addr) (i x : Nat) (ns : List Nat), vs = [.ref r] ∧ RdAt CR H r a i ∧ SqL K H a (vI ns) ∧ ns[i]? = some x ∧
  ∀ H' : Hp, RdAt CR H' r a (i + 1) → Keep (Only r) H H' → Q (.int (x : Int)) H'
theorem scNumber : FnScope ["self", "value"] ["self"] (defScope sNumber) := ⟨rfl, rfl, rfl, by decide +kernel, rfl, by decide +kernel, by decide +kernel⟩
theorem ok_number {f : Addr} {fd : FuncData} (F : Fun K "number" "Reader.number" sNumber f fd) (T : Txt K mg CA CP CR) : FnOk P w K mg base CX0 1 f fd ["self"] (spNumber K CR) := by
  refine F.ok scNumber (fun vs H Q E h => ?_) (fun cdv A outer s H vs Q E hr h => ?_)
  · obtain ⟨r, a, i, x, ns, rfl, _⟩ := h
    rfl
  · obtain ⟨r, a, i, x, ns, rfl, ⟨dx, h1⟩, hS, hx, k⟩ := h
    refine ⟨_, pss_cons (ps_set (i := 1) scNumber.nd rfl (Or.inl rfl) (pe_ix ix_list (pe_fld (pv 0) rfl) (pe_fld (pv 0) rfl) (fun _ _ => rfl)))
      (pss_cons (ps_fld (pv 0) (pe_op op_add (pe_fld (pv 0) rfl) pe_int) rfl)
      (pss_one (ps_ret (pv 1)))), ?_⟩
    refine ⟨_, rfl, r, CR, dx, _, _, rfl, h1, T.cR, T.rNumbers, rF_numbers _ _, _, rfl, r, CR, dx, _, _, rfl, h1, T.cR, T.rAt, rF_at _ _, a, _, _, .int (x : Int), rfl, rfl, hS, at_of (j := i) rfl (by rw [vI_get, hx]; rfl), ?_⟩
    refine ⟨_, rfl, r, CR, dx, _, _, rfl, h1, T.cR, T.rAt, rF_at _ _, _, _, rfl, rfl, _, rfl, r, CR, dx, _, rfl, h1, T.cR, T.rAt, (by show 2 < 1000; decide), ?_⟩
    refine ⟨_, rfl, ?_⟩
    refine k _ ⟨dx, ?_⟩ Keep.only_upd
    rw [upd_same, rF_put]
    rfl
def spRow (K : PySem.W.Frag) (CR : Addr) : Sp := fun vs H Q _ => ∃ (r a : Addr) (i : Nat) (ns row t : List Nat), vs = [.ref r] ∧ RdAt CR H r a i ∧ SqL K H a (vI ns) ∧ ns.drop i = row.length :: (row ++ t) ∧
  ∀ (H' : Hp) (D : Addr), RdAt CR H' r a (i + 1 + row.length) → Keep (Only r) H H' → H D = none → H' D = some (.lst (vI row)) → Q (.ref D) H'
theorem scRow : FnScope ["self", "size", "start"] ["self"] (defScope sRow) := ⟨rfl, rfl, rfl, by decide +kernel, rfl, by decide +kernel, by decide +kernel⟩
theorem ok_row {f : Addr} {fd : FuncData} (F : Fun K "row" "Reader.row" sRow f fd) (T : Txt K mg CA CP CR) (MN : Mth P w K mg base CR "number" 1 ["self"] (spNumber K CR)) : FnOk P w K mg base CX0 2 f fd ["self"] (spRow K CR) := by
  obtain ⟨fN, fdN, GN, mN, bN⟩ := MN
  refine F.ok scRow (fun vs H Q E h => ?_) (fun cdv A outer s H vs Q E hr h => ?_)
  · obtain ⟨r, a, i, ns, row, t, rfl, _⟩ := h
    rfl
  · obtain ⟨r, a, i, ns, row, t, rfl, ⟨dx, h1⟩, hS, hd, k⟩ := h
    refine ⟨_, pss_cons (ps_set (i := 1) scRow.nd rfl (Or.inl rfl) (pe_meth0 (pv 0) T.cR mN GN (hr.mono (by decide)) bN .nil pass0))
      (pss_cons (ps_set (i := 2) scRow.nd rfl (Or.inl rfl) (pe_fld (pv 0) rfl))
      (pss_cons (ps_fld (pv 0) (pe_op op_add (pv 2) (pv 1)) rfl)
      (pss_one (ps_ret (pe_slice sl_list (pe_fld (pv 0) rfl) (po_some (pv 2)) (po_some (pe_fld (pv 0) rfl))))))), ?_⟩
    have hx : ns[i]? = some row.length := by
      have e := congrArg (fun l => l[0]?) hd
      simp only [List.getElem?_drop] at e
      exact e
    have hlen : i + 1 + row.length ≤ ns.length := by
      have e := congrArg List.length hd
      rw [List.length_drop, List.length_cons, List.length_append] at e
      omega
    refine ⟨_, rfl, r, dx, _, rfl, h1, rF_no _ _ (by decide +kernel) (by decide +kernel), r, a, i, row.length, ns, rfl, ⟨dx, h1⟩, hS, hx, fun H1 ⟨dx1, h2⟩ k1 => ?_⟩
    have hS1 := SqL.only k1 h1 hS
    refine ⟨_, rfl, r, CR, dx1, _, _, rfl, h2, T.cR, T.rAt, rF_at _ _, ?_⟩
    refine ⟨_, rfl, _, rfl, _, _, rfl, rfl, _, rfl, r, CR, dx1, _, rfl, h2, T.cR, T.rAt, (by show 2 < 1000; decide), ?_⟩
    have e3 : putF "at" (.int (((i + 1 : Nat) : Int) + (row.length : Int))) (rF a ((i + 1 : Nat) : Int)) = rF a ((i + 1 + row.length : Nat) : Int) := by
      rw [rF_put]
      rfl
    rw [e3]
    refine ⟨_, rfl, r, CR, dx1, _, _, rfl, upd_same, T.cR, T.rNumbers, rF_numbers _ _, _, rfl, _, rfl, _, rfl, r, CR, dx1, _, _, rfl, upd_same, T.cR, T.rAt, rF_at _ _, _, rfl, a, _, rfl, SqL.only Keep.only_upd h2 hS1, fun D hD => ?_⟩
    have hDr : D ≠ r := fun z => by rw [z, upd_same] at hD; cases hD
    have hD1 : H1 D = none := by rw [upd_ne hDr] at hD; exact hD
    have hD0 : H D = none := by
      rcases k1.none_back hD1 with z | z
      · exact absurd z hDr
      · exact z
    refine k _ D ⟨dx1, by rw [upd_ne hDr.symm]; exact upd_same⟩ (fun b o e n => ?_) hD0 ?_
    · rw [upd_ne (ne_of_none e hD0), upd_ne n]
      exact k1 b o e n
    · rw [upd_same, cut_nat ns (by omega) hlen]
      have e4 : ns.drop (i + 1) = row ++ t := by
        have e := congrArg (List.drop 1) hd
        rw [List.drop_drop] at e
        exact e
      rw [e4, show i + 1 + row.length - (i + 1) = row.length by omega, List.take_left']
      rfl
end
end Hd

/-! ## part B5 -/
namespace Hd
open PySem PySem.Spec PyProof.Rows L2
open Ks190 (Medium Bytes)
theorem few_lt {n : Nat} (h : n ≤ 5000) : n < sizeLine := Nat.lt_of_le_of_lt h (by decide)
section
variable {P : Program} {w : World} {K : PySem.W.Frag} {mg : Str → Option Value} {base : Heap} {CA CP CR : Addr}
/-! ### Asking -/
def spAInit (CA : Addr) : Sp := fun vs H Q _ => ∃ (a dx p s : Addr), vs = [.ref a, .ref p, .ref s] ∧ H a = some (.ins CA dx []) ∧
  ∀ (H' : Hp) (t : Addr), H t = none → H' a = some (.ins CA dx (aF p s t)) → H' t = some (.lst []) → Keep (Only a) H H' → Q .non H'
theorem scAInit : FnScope ["self", "pages", "script"] ["self", "pages", "script"] (defScope sAInit) := ⟨rfl, rfl, rfl, by decide +kernel, rfl, by decide +kernel, by decide +kernel⟩
theorem ok_aInit {f : Addr} {fd : FuncData} (F : Fun K "__init__" "Asking.__init__" sAInit f fd) (T : Txt K mg CA CP CR) : FnOk P w K mg base CX0 1 f fd ["self", "pages", "script"] (spAInit CA) := by
  refine F.ok scAInit (fun vs H Q E h => ?_) (fun cdv A outer s H vs Q E hr h => ?_)
  · obtain ⟨a, dx, p, s, rfl, _⟩ := h
    rfl
  · obtain ⟨a, dx, p, s, rfl, hp, k⟩ := h
    refine ⟨_, pss_cons (ps_fld (pv 0) (pv 1) rfl) (pss_cons (ps_fld (pv 0) (pv 2) rfl) (pss_one (ps_fld (pv 0) (pe_lst pa_nil) rfl))), ?_⟩
    refine ⟨_, rfl, _, rfl, a, CA, dx, [], rfl, hp, T.cA, T.aPages, (by show 0 < 1000; decide), ?_⟩
    refine ⟨_, rfl, _, rfl, a, CA, dx, _, rfl, upd_same, T.cA, T.aScript, (by show 1 < 1000; decide), ?_⟩
    refine ⟨by show 0 ≤ sizeLine; decide, fun t ht => ?_⟩
    have nat : a ≠ t := ne_of_none upd_same ht
    have ht0 : H t = none := by
      rw [upd_ne nat.symm, upd_ne nat.symm] at ht
      exact ht
    refine ⟨_, rfl, a, CA, dx, _, rfl, (by rw [upd_ne nat]; exact upd_same), T.cA, T.aThings, ?_, ?_⟩
    · exact Nat.lt_of_le_of_lt (Nat.le_trans (length_putF _ _ _) (Nat.succ_le_succ (length_putF _ _ _))) (by show 0 + 1 + 1 < 1000; decide)
    · refine k _ t ht0 (Eq.trans upd_same (congrArg (fun z => some (HO.ins CA dx z)) (aF_new p s t))) (by rw [upd_ne nat.symm]; exact upd_same) fun b o e n => ?_
      have n : b ≠ a := n
      rw [upd_ne n, upd_ne (ne_of_none e ht0), upd_ne n, upd_ne n]
      exact e
/-- what every method that tells one thing more leaves -/
def Told (CP CA : Addr) (H : Hp) (R : Reg) (a p : Addr) (d : Medium) (n : Nat) (sc : Bytes) (tl : List (List Nat)) (H' : Hp) (R' : Reg) : Prop :=
  AskAt CP CA H' R' a p d n sc tl ∧ Keep R H H' ∧ Grow R H R'
theorem Told.fresh {CP CA : Addr} {H H' : Hp} {R R' : Reg} {a p : Addr} {d : Medium} {n : Nat} {sc : Bytes} {tl : List (List Nat)} (t : Told CP CA H R a p d n sc tl H' R') (sub : ∀ b, R b → R' b) {D : Addr} (h : H' D = none) : H D = none := by
  rcases t.2.1.none_back h with z | z
  · exact absurd (sub _ z) (t.1.out h)
  · exact z
theorem Told.of {S R : Reg} {H : Hp} {a p s t dxa q : Addr} {rs : List V} {d : Medium} {n : Nat} {sc : Bytes} {tl : List (List Nat)} {e : List Nat} (h : AskB CP CA H R S a p s t dxa rs d n sc tl) (hq : H q = none) :
    Told CP CA H R a p d n sc (tl ++ [e]) (upd (upd H q (.lst (vI e))) t (.lst (rs ++ [.ref q]))) (fun b => R b ∨ b = q) := ⟨⟨S, s, t, dxa, _, h.log hq⟩, h.log_keep hq, log_grow hq⟩
theorem rs_few {S R : Reg} {H : Hp} {a p s t dxa : Addr} {rs : List V} {d : Medium} {n : Nat} {sc : Bytes} {tl : List (List Nat)} (h : AskB CP CA H R S a p s t dxa rs d n sc tl) (l : tl.length ≤ 5000) : rs.length < sizeLine := by
  rw [h.its.1]
  exact few_lt l
/-- behind a change of the pages -/
theorem AskB.wrote {S R S3 : Reg} {H H3 : Hp} {a p s t dxa : Addr} {rs : List V} {d d3 : Medium} {n n3 : Nat} {sc : Bytes} {tl : List (List Nat)} (B2 : AskB CP CA H R S a p s t dxa rs d n sc tl)
    (P3 : PagesAt CP H3 p S3 d3 n3) (K3 : Keep S H H3) (G3 : Grow S H S3) : Told CP CA H R a p d3 n3 sc tl H3 (fun z => (R z ∧ ¬ S z) ∨ S3 z) := by
  refine ⟨⟨S3, s, t, dxa, rs, K3 _ _ B2.ob B2.na, P3, K3 _ _ B2.scr B2.ns, K3 _ _ B2.thg B2.nt, B2.its.mono fun l o z e => ⟨⟨.inl ⟨z.1, z.2.1⟩, G3.out e z.2.1, z.2.2⟩, K3 _ _ e z.2.1⟩, fun z h => .inr h, fun z h => ?_,
    .inl ⟨B2.ra, B2.na⟩, .inl ⟨B2.rsc, B2.ns⟩, .inl ⟨B2.rt, B2.nt⟩, G3.out B2.ob B2.na, G3.out B2.scr B2.ns, G3.out B2.thg B2.nt, B2.st⟩, fun z o e ns => ?_, fun z h => ?_⟩
  · rcases h with ⟨h1, h2⟩ | h
    · obtain ⟨o, e⟩ := B2.all z h1
      exact ⟨o, K3 _ _ e h2⟩
    · exact P3.all z h
  · exact K3 _ _ e fun h => ns (B2.sub _ h)
  · rcases h with h | h
    · exact .inl h.1
    · rcases G3 z h with h | h
      · exact .inl (B2.sub _ h)
      · exact .inr h
def spRead (CP CA : Addr) : Sp := fun vs H Q _ => ∃ (a p : Addr) (place : Nat) (R : Reg) (d : Medium) (n : Nat) (sc : Bytes) (tl : List (List Nat)), vs = [.ref a, .int (place : Int)] ∧ AskAt CP CA H R a p d n sc tl ∧ place < 1024 ∧ tl.length ≤ 5000 ∧
  ∀ (H' : Hp) (R' : Reg) (D : Addr), Told CP CA H R a p d n sc (tl ++ [[1, place]]) H' R' → H D = none → ¬ R' D → H' D = some (.lst (vI (d place))) → Q (.ref D) H'
theorem scRead : FnScope ["self", "place"] ["self", "place"] (defScope sRead) := ⟨rfl, rfl, rfl, by decide +kernel, rfl, by decide +kernel, by decide +kernel⟩
theorem ok_read {f : Addr} {fd : FuncData} (F : Fun K "read" "Asking.read" sRead f fd) (T : Txt K mg CA CP CR) (MS : Mth P w K mg base CP "show" 1 ["self", "place"] (spShow CP)) : FnOk P w K mg base CX0 2 f fd ["self", "place"] (spRead CP CA) := by
  obtain ⟨fN, fdN, GN, mN, bN⟩ := MS
  refine F.ok scRead (fun vs H Q E h => ?_) (fun cdv A outer s H vs Q E hr h => ?_)
  · obtain ⟨a, p, place, R, d, n, sc, tl, rfl, _⟩ := h
    rfl
  · obtain ⟨a, p, place, R, d, n, sc, tl, rfl, ⟨S, s, t, dxa, rs, B⟩, hpl, hfew, k⟩ := h
    refine ⟨_, pss_cons (ps_expr (pe_bm PySem.F.plainAttrs_list PySem.F.slot_list_append PySem.F.type_list_append mt_append (pe_fld (pv 0) rfl) (pa_cons (pe_lst (pa_cons pe_int (pa_cons (pv 1) pa_nil))) pa_nil)))
      (pss_one (ps_ret (pe_meth (pe_fld (pv 0) rfl) T.cP mN GN (hr.mono (by decide)) bN .nil pass0 (pa_cons (pv 1) pa_nil)))), ?_⟩
    refine ⟨_, rfl, a, CA, dxa, _, _, rfl, B.ob, T.cA, T.aThings, aF_things _ _ _, .inl ⟨rfl, _, SqL.of B.thg⟩, _, rfl, by show 2 ≤ sizeLine; decide, fun q hq => ?_⟩
    have tq : t ≠ q := ne_of_none B.thg hq
    have N := Told.of B (e := [1, place]) hq
    refine ⟨t, rs, _, rfl, rfl, by rw [upd_ne tq]; exact B.thg, rs_few B hfew, ?_⟩
    have B2 := B.log (e := [1, place]) hq
    obtain ⟨dx, dd, kvs, fv, PB⟩ := id B2.pg
    refine ⟨_, rfl, a, CA, dxa, _, _, rfl, B2.ob, T.cA, T.aPages, aF_pages _ _ _, p, dx, _, rfl, PB.ob, pF_no _ _ (by decide +kernel) (by decide +kernel), _, rfl, ?_⟩
    refine ⟨p, place, S, d, n, rfl, B2.pg, hpl, fun D H' hD hs hd => ?_⟩
    exact k H' _ D ⟨N.1.same hs, N.2.1.trans N.2.2 (Same.keep hs), N.2.2⟩ (N.fresh (fun b z => .inl z) hD) (N.1.out hD) hd
def spWrite (CP CA : Addr) : Sp := fun vs H Q _ => ∃ (a p c : Addr) (place : Nat) (b : Bytes) (R : Reg) (d : Medium) (n : Nat) (sc : Bytes) (tl : List (List Nat)), vs = [.ref a, .int (place : Int), .ref c] ∧ AskAt CP CA H R a p d n sc tl ∧
  H c = some (.lst (vI b)) ∧ ¬ R c ∧ b.length = 96 ∧ n < 100000 ∧ tl.length ≤ 5000 ∧
  ∀ (H' : Hp) (R' : Reg), Told CP CA H R a p (wr d place b) (n + 1) sc (tl ++ [2 :: place :: b]) H' R' → Q .non H'
theorem scWrite : FnScope ["self", "place", "content"] ["self", "place", "content"] (defScope sWrite) := ⟨rfl, rfl, rfl, by decide +kernel, rfl, by decide +kernel, by decide +kernel⟩
theorem ok_write {f : Addr} {fd : FuncData} (F : Fun K "write" "Asking.write" sWrite f fd) (T : Txt K mg CA CP CR) (MS : Mth P w K mg base CP "store" 1 ["self", "place", "content"] (spStore K CP)) : FnOk P w K mg base CX0 2 f fd ["self", "place", "content"] (spWrite CP CA) := by
  obtain ⟨fN, fdN, GN, mN, bN⟩ := MS
  refine F.ok scWrite (fun vs H Q E h => ?_) (fun cdv A outer s H vs Q E hr h => ?_)
  · obtain ⟨a, p, c, place, b, R, d, n, sc, tl, rfl, _⟩ := h
    rfl
  · obtain ⟨a, p, c, place, b, R, d, n, sc, tl, rfl, ⟨S, s, t, dxa, rs, B⟩, hc, nc, hb, hn, hfew, k⟩ := h
    refine ⟨_, pss_cons (ps_expr (pe_bm PySem.F.plainAttrs_list PySem.F.slot_list_append PySem.F.type_list_append mt_append (pe_fld (pv 0) rfl) (pa_cons (pe_op op_cat (pe_lst (pa_cons pe_int (pa_cons (pv 1) pa_nil))) (pv 2)) pa_nil)))
      (pss_one (ps_expr (pe_meth (pe_fld (pv 0) rfl) T.cP mN GN (hr.mono (by decide)) bN .nil pass0 (pa_cons (pv 1) (pa_cons (pv 2) pa_nil))))), ?_⟩
    refine ⟨_, rfl, a, CA, dxa, _, _, rfl, B.ob, T.cA, T.aThings, aF_things _ _ _, .inl ⟨rfl, _, SqL.of B.thg⟩, _, rfl, by show 2 ≤ sizeLine; decide, fun x hx => ?_⟩
    have cx : c ≠ x := ne_of_none hc hx
    have Bx := B.keep (Same.new (o := .lst [V.int 2, V.int (place : Int)]) hx)
    have hsz := sizeLine_eq
    refine ⟨_, rfl, x, c, _, _, rfl, rfl, upd_same, by rw [upd_ne cx]; exact hc, by rw [vI_len, hb, hsz]; show 2 + 96 ≤ 16777216; decide, fun q hq => ?_⟩
    have tq : t ≠ q := ne_of_none Bx.thg hq
    have N := Told.of Bx (e := 2 :: place :: b) hq
    refine ⟨t, rs, _, rfl, rfl, by rw [upd_ne tq]; exact Bx.thg, rs_few B hfew, ?_⟩
    have B2 := Bx.log (e := 2 :: place :: b) hq
    obtain ⟨dx, dd, kvs, fv, PB⟩ := id B2.pg
    have hcx : upd H x (.lst [V.int 2, V.int (place : Int)]) c = some (.lst (vI b)) := by rw [upd_ne cx]; exact hc
    have hc2 := N.2.1 _ _ hcx nc
    refine ⟨_, rfl, a, CA, dxa, _, _, rfl, B2.ob, T.cA, T.aPages, aF_pages _ _ _, p, dx, _, rfl, PB.ob, pF_no _ _ (by decide +kernel) (by decide +kernel), _, rfl, _, rfl, ?_⟩
    refine ⟨p, c, place, b, S, d, n, rfl, B2.pg, SqL.of hc2, hb, hn, fun H3 S3 P3 K3 G3 => ?_⟩
    have N3 := B2.wrote P3 K3 G3
    have sx : Same H (upd H x (.lst [V.int 2, V.int (place : Int)])) := Same.new hx
    refine k H3 _ ⟨N3.1, ?_, ?_⟩
    · exact Keep.trans (R' := R) (Same.keep sx) (Grow.refl R H) (N.2.1.trans N.2.2 N3.2.1)
    · have g1 : Grow R (upd H x (.lst [V.int 2, V.int (place : Int)])) _ := N.2.2.trans N.2.1 N3.2.2
      exact (Grow.refl R H).trans (Same.keep sx) g1
def spChance (CP CA : Addr) : Sp := fun vs H Q _ => ∃ (a p : Addr) (size : Nat) (R : Reg) (d : Medium) (n : Nat) (sc : Bytes) (tl : List (List Nat)), vs = [.ref a, .int (size : Int)] ∧ AskAt CP CA H R a p d n sc tl ∧ tl.length ≤ 5000 ∧
  ∀ (H' : Hp) (R' : Reg) (D : Addr), Told CP CA H R a p d n sc (tl ++ [[3, size]]) H' R' → H D = none → ¬ R' D → H' D = some (.lst (vI (sc.take size))) → Q (.ref D) H'
theorem scChance : FnScope ["self", "size"] ["self", "size"] (defScope sChance) := ⟨rfl, rfl, rfl, by decide +kernel, rfl, by decide +kernel, by decide +kernel⟩
theorem ok_chance {f : Addr} {fd : FuncData} (F : Fun K "chance" "Asking.chance" sChance f fd) (T : Txt K mg CA CP CR) : FnOk P w K mg base CX0 1 f fd ["self", "size"] (spChance CP CA) := by
  refine F.ok scChance (fun vs H Q E h => ?_) (fun cdv A outer s H vs Q E hr h => ?_)
  · obtain ⟨a, p, size, R, d, n, sc, tl, rfl, _⟩ := h
    rfl
  · obtain ⟨a, p, size, R, d, n, sc, tl, rfl, ⟨S, s, t, dxa, rs, B⟩, hfew, k⟩ := h
    refine ⟨_, pss_cons (ps_expr (pe_bm PySem.F.plainAttrs_list PySem.F.slot_list_append PySem.F.type_list_append mt_append (pe_fld (pv 0) rfl) (pa_cons (pe_lst (pa_cons pe_int (pa_cons (pv 1) pa_nil))) pa_nil)))
      (pss_one (ps_ret (pe_slice sl_list (pe_fld (pv 0) rfl) po_none (po_some (pv 1))))), ?_⟩
    refine ⟨_, rfl, a, CA, dxa, _, _, rfl, B.ob, T.cA, T.aThings, aF_things _ _ _, .inl ⟨rfl, _, SqL.of B.thg⟩, _, rfl, by show 2 ≤ sizeLine; decide, fun q hq => ?_⟩
    have tq : t ≠ q := ne_of_none B.thg hq
    have N := Told.of B (e := [3, size]) hq
    refine ⟨t, rs, _, rfl, rfl, by rw [upd_ne tq]; exact B.thg, rs_few B hfew, ?_⟩
    have B2 := B.log (e := [3, size]) hq
    refine ⟨_, rfl, a, CA, dxa, _, _, rfl, B2.ob, T.cA, T.aScript, aF_script _ _ _, _, rfl, _, rfl, s, _, rfl, SqL.of B2.scr, fun D hD => ?_⟩
    rw [cut_to]
    have hs := Same.new (o := .lst (vI (sc.take size))) hD
    exact k _ _ D ⟨N.1.same hs, N.2.1.trans N.2.2 (Same.keep hs), N.2.2⟩ (N.fresh (fun b z => .inl z) hD) (N.1.out hD) upd_same
def spPlace (CP CA : Addr) : Sp := fun vs H Q _ => ∃ (a p c : Addr) (key : Bytes) (j : Nat) (R : Reg) (d : Medium) (n : Nat) (sc : Bytes) (tl : List (List Nat)), vs = [.ref a, .ref c, .int (j : Int)] ∧ AskAt CP CA H R a p d n sc tl ∧
  H c = some (.lst (vI key)) ∧ ¬ R c ∧ 3 ≤ key.length ∧ j ≤ 1024 ∧ tl.length ≤ 5000 ∧
  ∀ (H' : Hp) (R' : Reg), Told CP CA H R a p d n sc (tl ++ [[4, j]]) H' R' → Q (.int (G.place key j : Nat)) H'
theorem scPlace : FnScope ["self", "key", "j"] ["self", "key", "j"] (defScope sPlace) := ⟨rfl, rfl, rfl, by decide +kernel, rfl, by decide +kernel, by decide +kernel⟩
theorem ok_place {f : Addr} {fd : FuncData} (F : Fun K "place" "Asking.place" sPlace f fd) (T : Txt K mg CA CP CR) (DP : Def P w K mg base "place_of" 1 ["key", "j"] (spPlaceOf K)) : FnOk P w K mg base CX0 2 f fd ["self", "key", "j"] (spPlace CP CA) := by
  obtain ⟨fN, fdN, GN, mN, kN, bN⟩ := DP
  refine F.ok scPlace (fun vs H Q E h => ?_) (fun cdv A outer s H vs Q E hr h => ?_)
  · obtain ⟨a, p, c, key, j, R, d, n, sc, tl, rfl, _⟩ := h
    rfl
  · obtain ⟨a, p, c, key, j, R, d, n, sc, tl, rfl, ⟨S, s, t, dxa, rs, B⟩, hc, nc, hl, hj, hfew, k⟩ := h
    refine ⟨_, pss_cons (ps_expr (pe_bm PySem.F.plainAttrs_list PySem.F.slot_list_append PySem.F.type_list_append mt_append (pe_fld (pv 0) rfl) (pa_cons (pe_lst (pa_cons pe_int (pa_cons (pv 2) pa_nil))) pa_nil)))
      (pss_one (ps_ret (pe_call GN (hr.mono (by decide)) (by rfl) mN kN bN .nil pass0 (pa_cons (pv 1) (pa_cons (pv 2) pa_nil))))), ?_⟩
    refine ⟨_, rfl, a, CA, dxa, _, _, rfl, B.ob, T.cA, T.aThings, aF_things _ _ _, .inl ⟨rfl, _, SqL.of B.thg⟩, _, rfl, by show 2 ≤ sizeLine; decide, fun q hq => ?_⟩
    have tq : t ≠ q := ne_of_none B.thg hq
    have N := Told.of B (e := [4, j]) hq
    refine ⟨t, rs, _, rfl, rfl, by rw [upd_ne tq]; exact B.thg, rs_few B hfew, ?_⟩
    refine ⟨_, rfl, _, rfl, c, key, j, rfl, SqL.of (N.2.1 _ _ hc nc), hl, hj, ?_⟩
    exact k _ _ N
def spPad (CP CA : Addr) : Sp := fun vs H Q _ => ∃ (a p c e : Addr) (key salt : Bytes) (R : Reg) (d : Medium) (n : Nat) (sc : Bytes) (tl : List (List Nat)), vs = [.ref a, .ref c, .ref e] ∧ AskAt CP CA H R a p d n sc tl ∧
  H c = some (.lst (vI key)) ∧ ¬ R c ∧ H e = some (.lst (vI salt)) ∧ ¬ R e ∧ key.length = 32 ∧ salt.length = 16 ∧ tl.length ≤ 5000 ∧
  ∀ (H' : Hp) (R' : Reg) (D : Addr), Told CP CA H R a p d n sc (tl ++ [5 :: salt]) H' R' → H D = none → ¬ R' D → H' D = some (.lst (vI (G.mix key salt))) → Q (.ref D) H'
theorem scPad : FnScope ["self", "key", "salt"] ["self", "key", "salt"] (defScope sPad) := ⟨rfl, rfl, rfl, by decide +kernel, rfl, by decide +kernel, by decide +kernel⟩
theorem ok_pad {f : Addr} {fd : FuncData} (F : Fun K "pad" "Asking.pad" sPad f fd) (T : Txt K mg CA CP CR) (DP : Def P w K mg base "pad_of" 1 ["key", "salt"] (spPadOf K)) : FnOk P w K mg base CX0 2 f fd ["self", "key", "salt"] (spPad CP CA) := by
  obtain ⟨fN, fdN, GN, mN, kN, bN⟩ := DP
  refine F.ok scPad (fun vs H Q E h => ?_) (fun cdv A outer s H vs Q E hr h => ?_)
  · obtain ⟨a, p, c, e, key, salt, R, d, n, sc, tl, rfl, _⟩ := h
    rfl
  · obtain ⟨a, p, c, e, key, salt, R, d, n, sc, tl, rfl, ⟨S, s, t, dxa, rs, B⟩, hc, nc, he, ne, hl, hl2, hfew, k⟩ := h
    refine ⟨_, pss_cons (ps_expr (pe_bm PySem.F.plainAttrs_list PySem.F.slot_list_append PySem.F.type_list_append mt_append (pe_fld (pv 0) rfl) (pa_cons (pe_op op_cat (pe_lst (pa_cons pe_int pa_nil)) (pv 2)) pa_nil)))
      (pss_one (ps_ret (pe_call GN (hr.mono (by decide)) (by rfl) mN kN bN .nil pass0 (pa_cons (pv 1) (pa_cons (pv 2) pa_nil))))), ?_⟩
    refine ⟨_, rfl, a, CA, dxa, _, _, rfl, B.ob, T.cA, T.aThings, aF_things _ _ _, .inl ⟨rfl, _, SqL.of B.thg⟩, by show 1 ≤ sizeLine; decide, fun x hx => ?_⟩
    have cx : c ≠ x := ne_of_none hc hx
    have ex : e ≠ x := ne_of_none he hx
    have sx := Same.new (o := .lst [V.int 5]) hx
    have Bx := B.keep sx
    have hsz := sizeLine_eq
    refine ⟨_, rfl, x, e, _, _, rfl, rfl, upd_same, sx _ _ he, by rw [vI_len, hl2, hsz]; show 1 + 16 ≤ 16777216; decide, fun q hq => ?_⟩
    have tq : t ≠ q := ne_of_none Bx.thg hq
    have N := Told.of Bx (e := 5 :: salt) hq
    refine ⟨t, rs, _, rfl, rfl, by rw [upd_ne tq]; exact Bx.thg, rs_few B hfew, ?_⟩
    refine ⟨_, rfl, _, rfl, c, e, key, salt, rfl, SqL.of (N.2.1 _ _ (sx _ _ hc) nc), SqL.of (N.2.1 _ _ (sx _ _ he) ne), hl, hl2, fun D hD => ?_⟩
    have hs := Same.new (o := .lst (vI (G.mix key salt))) hD
    have g1 : Grow R H _ := (Grow.refl R H).trans (Same.keep sx) N.2.2
    have k1 : Keep R H _ := Keep.trans (R' := R) (Same.keep sx) (Grow.refl R H) N.2.1
    exact k _ _ D ⟨N.1.same hs, k1.trans g1 (Same.keep hs), g1⟩ (sx.free (N.fresh (fun b z => .inl z) hD)) (N.1.out hD) upd_same
def spAccount (CP CA : Addr) : Sp := fun vs H Q _ => ∃ (a p : Addr) (R : Reg) (d : Medium) (n : Nat) (sc : Bytes) (tl : List (List Nat)), vs = [.ref a] ∧ AskAt CP CA H R a p d n sc tl ∧ tl.flatten.length ≤ 10000000 ∧
  ∀ (H' : Hp) (D : Addr), H D = none → Same H H' → H' D = some (.lst (vI (tl.length :: tl.flatten))) → Q (.ref D) H'
theorem scAccount : FnScope ["self", "told", "thing"] ["self"] (defScope sAccount) := ⟨rfl, rfl, rfl, by decide +kernel, rfl, by decide +kernel, by decide +kernel⟩
theorem flat_take {tl : List (List Nat)} {i : Nat} {e : List Nat} (h : tl[i]? = some e) : (tl.take (i + 1)).flatten = (tl.take i).flatten ++ e := by
  rw [take_more h, List.flatten_append, List.flatten_singleton]
theorem flat_le (tl : List (List Nat)) (i : Nat) : (tl.take i).flatten.length ≤ tl.flatten.length := by
  have e : tl.flatten = (tl.take i).flatten ++ (tl.drop i).flatten := by rw [← List.flatten_append, List.take_append_drop]
  rw [e, List.length_append]
  exact Nat.le_add_right _ _
theorem ok_account {f : Addr} {fd : FuncData} (F : Fun K "account" "Asking.account" sAccount f fd) (T : Txt K mg CA CP CR) : FnOk P w K mg base CX0 1 f fd ["self"] (spAccount CP CA) := by
  refine F.ok scAccount (fun vs H Q E h => ?_) (fun cdv A outer s H vs Q E hr h => ?_)
  · obtain ⟨a, p, R, d, n, sc, tl, rfl, _⟩ := h
    rfl
  · obtain ⟨a, p, R, d, n, sc, tl, rfl, ⟨S, s, t, dxa, rs, B⟩, hfew, k⟩ := h
    refine ⟨_, pss_cons (ps_set (i := 1) scAccount.nd rfl (Or.inl rfl) (pe_lst (pa_cons (pe_callB call_len (by rfl) T.len PySem.boot_len (pa_cons (pe_fld (pv 0) rfl) pa_nil)) pa_nil)))
      (pss_cons (ps_for PassesOwn.never rfl (pi_list (pe_fld (pv 0) rfl)) (pg_name (i := 2) scAccount.nd rfl (Or.inl rfl))
        (pss_one (ps_expr (pe_bm PySem.F.plainAttrs_list PySem.F.slot_list_extend PySem.F.type_list_extend mt_extend (pv 1) (pa_cons (pv 2) pa_nil)))))
      (pss_one (ps_ret (pv 1)))), ?_⟩
    have hsz := sizeLine_eq
    refine ⟨_, rfl, a, CA, dxa, _, _, rfl, B.ob, T.cA, T.aThings, aF_things _ _ _, _, _, rfl, .inl ⟨_, SqL.of B.thg, rfl⟩, by show 1 ≤ sizeLine; decide, fun D hD => ?_⟩
    have s0 := Same.new (o := .lst [V.int (rs.length : Int)]) hD
    refine ⟨_, rfl, a, CA, dxa, _, _, rfl, s0 _ _ B.ob, T.cA, T.aThings, aF_things _ _ _, t, rfl, ⟨_, SqL.of (s0 _ _ B.thg)⟩, ?_⟩
    refine for_list (K := K) (a := t) (xs := rs) (fun i σ H' => ∃ v : Option V, σ = [some (.ref a), some (.ref D), v] ∧ Same H H' ∧ H' D = some (.lst (vI (tl.length :: (tl.take i).flatten)))) ⟨none, rfl, s0, ?_⟩ (fun i σ H' _ ⟨_, _, s1, _⟩ => SqL.of (s1 _ _ B.thg)) ?_ ?_
    · rw [upd_same, B.its.1]
      rfl
    · rintro i y σ H1 hi ⟨v, rfl, s1, d1⟩
      have hil : i < tl.length := by
        rw [← B.its.1]
        exact (List.getElem?_eq_some_iff.mp hi).1
      have he : tl[i]? = some tl[i] := List.getElem?_eq_getElem hil
      obtain ⟨l, h1, h2, h3⟩ := B.its.2 i _ he
      rw [hi] at h1
      have e1 : y = .ref l := Option.some.inj h1
      subst e1
      refine ⟨_, rfl, .inl ⟨rfl, _, SqL.of d1⟩, _, rfl, D, l, _, _, rfl, rfl, d1, s1 _ _ h3, ?_, ?_⟩
      · rw [vI_len, vI_len, List.length_cons]
        have z := flat_le tl (i + 1)
        rw [flat_take he, List.length_append] at z
        omega
      · refine ⟨some (.ref l), rfl, Same.mut s1 hD, ?_⟩
        rw [upd_same, flat_take he, ← vI_app]
        rfl
    · rintro σ H1 ⟨v, rfl, s1, d1⟩
      refine ⟨_, rfl, k H1 D hD s1 ?_⟩
      rw [d1, B.its.1, List.take_of_length_le (Nat.le_refl _)]
end
end Hd

/-! ## part B6 -/
namespace Hd
open PySem PySem.Spec PyProof.Rows L2
open Ks190 (Medium Bytes)
theorem Keep.mut {R : Reg} {H H' : Hp} {D : Addr} {o : HO} (k : Keep R H H') (h : H D = none) : Keep R H (upd H' D o) := fun b u e n => by
  rw [upd_ne (ne_of_none e h)]
  exact k b u e n
theorem Keep.beside {R : Reg} {H H1 H2 : Hp} {D : Addr} (k : Keep R H H1) (h : H D = none) (k2 : Keep (Only D) H1 H2) : Keep R H H2 := fun b u e n => k2 b u (k b u e n) (ne_of_none e h)
/-- the dict of what is taken -/
def TakenIs (kvs : List (Key × V)) (tk : List Nat) : Prop := ∀ q : Nat, (valV kvs (Sum.inl (q : Int))).isSome = tk.contains q
theorem TakenIs.nil : TakenIs [] [] := fun _ => rfl
theorem TakenIs.put {kvs : List (Key × V)} {tk : List Nat} (h : TakenIs kvs tk) (x : Nat) (v : V) : TakenIs (putK kvs (Sum.inl (x : Int)) v) (tk ++ [x]) := fun q => by
  rw [valV_put]
  by_cases c : q = x
  · subst c
    rw [if_pos rfl]
    simp
  · have c2 : ¬ (Sum.inl (q : Int) : Key) = Sum.inl (x : Int) := fun z => c (by injection z with z; omega)
    rw [if_neg c2, h q]
    simp [c]
def asks (n : Nat) : List (List Nat) := (List.range n).map fun j => [4, j]
theorem asks_len (n : Nat) : (asks n).length = n := by
  unfold asks
  rw [List.length_map, List.length_range]
theorem asks_more (n : Nat) : asks (n + 1) = asks n ++ [[4, n]] := by
  unfold asks
  rw [List.range_succ, List.map_append]
  rfl
section
variable {P : Program} {w : World} {K : PySem.W.Frag} {mg : Str → Option Value} {base : Heap} {CA CP CR : Addr}
def spDrawer (CP CA : Addr) : Sp := fun vs H Q _ => ∃ (a p c td : Addr) (key : Bytes) (kvs : List (Key × V)) (tk : List Nat) (R : Reg) (d : Medium) (n : Nat) (sc : Bytes) (tl : List (List Nat)), vs = [.ref a, .ref c, .ref td] ∧ AskAt CP CA H R a p d n sc tl ∧
  H c = some (.lst (vI key)) ∧ ¬ R c ∧ 3 ≤ key.length ∧ H td = some (.dK kvs) ∧ ¬ R td ∧ TakenIs kvs tk ∧ tk.length ≤ 192 ∧ tl.length ≤ 2000 ∧
  ∀ (H' : Hp) (R' : Reg) (D : Addr), Told CP CA H R a p d n sc (tl ++ asks (sk key tk).2) H' R' → H D = none → ¬ R' D → H' D = some (.lst (vI (sk key tk).1)) → Q (.ref D) H'
theorem scDrawer : FnScope ["asking", "key", "taken", "places", "j", "place"] ["asking", "key", "taken"] (defScope sDrawer) := ⟨rfl, rfl, rfl, by decide +kernel, rfl, by decide +kernel, by decide +kernel⟩
/-- how far the loop still is from its end -/
def mu (σ : L2.St) : Nat := match (σ[4]? : Option (Option V)) with
  | some (some (V.int m)) => (300 - m).toNat
  | _ => 0
theorem ok_drawer {f : Addr} {fd : FuncData} (F : Fun K "drawer_places" "drawer_places" sDrawer f fd) (T : Txt K mg CA CP CR) (MP : Mth P w K mg base CA "place" 2 ["self", "key", "j"] (spPlace CP CA)) :
    FnOk P w K mg base CX0 3 f fd ["asking", "key", "taken"] (spDrawer CP CA) := by
  obtain ⟨fN, fdN, GN, mN, bN⟩ := MP
  refine F.ok scDrawer (fun vs H Q E h => ?_) (fun cdv A outer s H vs Q E hr h => ?_)
  · obtain ⟨a, p, c, td, key, kvs, tk, R, d, n, sc, tl, rfl, _⟩ := h
    rfl
  · obtain ⟨a, p, c, td, key, kvs, tk, R, d, n, sc, tl, rfl, hA, hc, nc, hl, ht, nt, hT, htk, hfew, k⟩ := h
    have hu := hu_of hr
    obtain ⟨t1, g1⟩ := T.slotCount
    refine ⟨_, pss_cons (ps_set (i := 3) scDrawer.nd rfl (Or.inl rfl) (pe_lst pa_nil))
      (pss_cons (ps_set (i := 4) scDrawer.nd rfl (Or.inl rfl) pe_int)
      (pss_cons (ps_while PassesOwn.never (pt_cmpR op_lt (pe_callB call_len (by rfl) T.len PySem.boot_len (pa_cons (pv 3) pa_nil)) (pe_glob (v := .int 64) (by rfl) g1 ⟨_, rfl⟩) (nomark _))
        (pss_cons (ps_set (i := 5) scDrawer.nd rfl (Or.inl rfl) (pe_meth (pv 0) T.cA mN GN (hr.mono (by decide)) bN .nil pass0 (pa_cons (pv 1) (pa_cons (pv 4) pa_nil))))
        (pss_cons (ps_if (pt_cmp (pc_dnotin hu (pv 5) (pv 2))) (pss_one (ps_expr (pe_bm PySem.F.plainAttrs_list PySem.F.slot_list_append PySem.F.type_list_append mt_append (pv 3) (pa_cons (pv 5) pa_nil)))) pss_nil)
        (pss_one (ps_set (i := 4) scDrawer.nd rfl (Or.inl rfl) (pe_op op_add (pv 4) pe_int))))))
      (pss_one (ps_ret (pv 3))))), ?_⟩
    refine ⟨by show 0 ≤ sizeLine; decide, fun D hD => ?_⟩
    have s0 := Same.new (o := .lst []) hD
    refine while_by (fun σ H' => ∃ (m : Nat) (R1 : Reg) (v : Option V), σ = [some (.ref a), some (.ref c), some (.ref td), some (.ref D), some (.int (m : Int)), v] ∧ m ≤ 256 ∧ (∀ i, i < m → (got key tk i).length < 64) ∧ (got key tk m).length ≤ 64 ∧
      Told CP CA H R a p d n sc (tl ++ asks m) H' R1 ∧ ¬ R1 D ∧ H' D = some (.lst (vI (got key tk m)))) (fun σ _ => mu σ) ?_ ?_ ?_
    · refine ⟨0, R, none, rfl, by omega, fun i hi => absurd hi (Nat.not_lt_zero _), Nat.zero_le _, ⟨?_, Same.keep s0, Grow.refl R H⟩, hA.out hD, upd_same⟩
      rw [show tl ++ asks 0 = tl from List.append_nil _]
      exact hA.same s0
    · rintro σ H1 ⟨m, R1, v, rfl, hm, hlt, hle, N, nD, hD1⟩
      have hsz := sizeLine_eq
      refine ⟨_, rfl, _, _, rfl, .inl ⟨_, SqL.of hD1, rfl⟩, _, _, rfl, rfl, _, rfl, ?_⟩
      refine ite2 (fun h1 => ?_) (fun h1 => ?_)
      · have h1 := of_decide_eq_true h1
        rw [vI_len] at h1
        have hg : (got key tk m).length < 64 := by omega
        have hm2 : m < 256 := by
          have := got_len key tk (n := m) (by omega)
          omega
        obtain ⟨S, s, t, dxa, rs, B⟩ := id N.1
        refine ⟨_, rfl, a, dxa, _, rfl, B.ob, aF_no _ _ _ (by decide +kernel) (by decide +kernel) (by decide +kernel), _, rfl, _, rfl, ?_⟩
        refine ⟨a, p, c, key, m, R1, d, n, sc, tl ++ asks m, rfl, N.1, N.2.1 _ _ hc nc, N.2.2.out hc nc, hl, by omega, by rw [List.length_append, asks_len]; omega, fun H2 R2 N2 => ?_⟩
        have k2 : Keep R H H2 := N.2.1.trans N.2.2 N2.2.1
        have g2 : Grow R H R2 := N.2.2.trans N.2.1 N2.2.2
        have nD2 : ¬ R2 D := N2.2.2.out hD1 nD
        have hD2 : H2 D = some (.lst (vI (got key tk m))) := N2.2.1 _ _ hD1 nD
        have ht2 : H2 td = some (.dK kvs) := k2 _ _ ht nt
        have a2 : AskAt CP CA H2 R2 a p d n sc (tl ++ asks (m + 1)) := by
          rw [asks_more, ← List.append_assoc]
          exact N2.1
        refine ⟨_, rfl, _, rfl, td, _, rfl, DGet.k (k := Sum.inl ((G.place key m : Nat) : Int)) ht2, _, rfl, ?_⟩
        have hq := hT (G.place key m)
        cases e : valV kvs (Sum.inl ((G.place key m : Nat) : Int) : Key) with
        | none =>
          rw [e] at hq
          have hq : tk.contains (G.place key m) = false := hq.symm
          have eg : got key tk (m + 1) = got key tk m ++ [G.place key m] := by
            show (if tk.contains (G.place key m) then _ else _) = _
            rw [hq]
            rfl
          refine iteT ?_
          refine ⟨_, rfl, .inl ⟨rfl, _, SqL.of hD2⟩, _, rfl, D, _, _, rfl, rfl, hD2, by rw [vI_len]; omega, ?_⟩
          refine ⟨_, rfl, _, _, rfl, rfl, ?_⟩
          refine ⟨⟨m + 1, R2, _, rfl, by omega, fun i hi => ?_, by rw [eg, List.length_append, List.length_singleton]; omega, ⟨a2.keep (N := Only D) Keep.only_upd fun b rb z => nD2 (by rw [← z]; exact rb), k2.mut hD, g2⟩, nD2, ?_⟩, ?_⟩
          · rcases Nat.lt_or_ge i m with q | q
            · exact hlt i q
            · rw [show i = m by omega]
              exact hg
          · rw [upd_same, eg, vI_app]
            rfl
          · show (300 - ((m : Int) + 1)).toNat < (300 - (m : Int)).toNat
            omega
        | some x =>
          rw [e] at hq
          have hq : tk.contains (G.place key m) = true := hq.symm
          have eg : got key tk (m + 1) = got key tk m := by
            show (if tk.contains (G.place key m) then _ else _) = _
            rw [hq]
            rfl
          refine iteF ?_
          refine ⟨_, rfl, _, _, rfl, rfl, ?_⟩
          refine ⟨⟨m + 1, R2, _, rfl, by omega, fun i hi => ?_, by rw [eg]; omega, ⟨a2, k2, g2⟩, nD2, by rw [eg]; exact hD2⟩, ?_⟩
          · rcases Nat.lt_or_ge i m with q | q
            · exact hlt i q
            · rw [show i = m by omega]
              exact hg
          · show (300 - ((m : Int) + 1)).toNat < (300 - (m : Int)).toNat
            omega
      · have h1 : ¬ (got key tk m).length < 64 := fun z => h1 (decide_eq_true (by rw [vI_len]; omega))
        have es : sk key tk = (got key tk m, m) := by rw [← sk_at (by omega) hlt, seek_stop (by omega)]
        have e1 : (sk key tk).1 = got key tk m := by rw [es]
        have e2 : (sk key tk).2 = m := by rw [es]
        refine ⟨_, rfl, k H1 R1 D ?_ hD nD ?_⟩
        · rw [e2]
          exact N
        · rw [e1]
          exact hD1
    · rintro σ H Q Q' hq ⟨v, h1, x, n, e1, l, i, j, e2, e3, k, e4, q⟩
      exact ⟨v, h1, x, n, e1, l, i, j, e2, e3, k, e4, hq _ _ q⟩

/-! ### find_places -/
open Ks190 (find)
/-- what's asked to find the places of the keys, by what each key's search gives -/
def told2 (c : List Bytes) (res : List (List Nat × Nat)) : List (List Nat) := (c.zip res).flatMap fun x => asks x.2.2
theorem told2_more {c : List Bytes} {res : List (List Nat × Nat)} {i : Nat} {key : Bytes} {x : List Nat × Nat} (h : c[i]? = some key) (hl : res.length = i) : told2 (c.take (i + 1)) (res ++ [x]) = told2 (c.take i) res ++ asks x.2 := by
  unfold told2
  have hi : i < c.length := (List.getElem?_eq_some_iff.mp h).1
  rw [take_more h, List.zip_append (by rw [List.length_take, hl]; omega), List.flatMap_append]
  show _ ++ (asks x.2 ++ []) = _
  rw [List.append_nil]
theorem finding_told (c : List Bytes) : (Ks190.finding G c).map encN = told2 c (find G [] c) := by
  unfold Ks190.finding told2
  rw [List.map_flatMap]
  refine congrArg (fun f => (c.zip (find G [] c)).flatMap f) (funext fun x => ?_)
  unfold asks
  rw [List.map_map]
  exact List.map_congr_left fun _ _ => rfl
def lastOf (res : List (List Nat × Nat)) : List Nat := (res.getLast?.getD ([], 0)).1
theorem lastOf_snoc (res : List (List Nat × Nat)) (x : List Nat × Nat) : lastOf (res ++ [x]) = x.1 := by
  unfold lastOf
  rw [List.getLast?_concat]
  rfl
theorem drop_cons {α : Type} : ∀ {l : List α} {i : Nat} {x : α}, l[i]? = some x → l.drop i = x :: l.drop (i + 1)
  | [], i, x, h => by simp at h
  | a :: l, 0, x, h => by
    have e : a = x := Option.some.inj h
    subst e
    rfl
  | a :: l, i + 1, x, h => drop_cons (l := l) (i := i) (x := x) h
def spFind (CP CA : Addr) : Sp := fun vs H Q _ => ∃ (a p ks : Addr) (rs : List V) (c : List Bytes) (R : Reg) (d : Medium) (n : Nat) (sc : Bytes), vs = [.ref a, .ref ks] ∧ AskAt CP CA H R a p d n sc [] ∧
  H ks = some (.lst rs) ∧ ¬ R ks ∧ Items H (fun l => ¬ R l) rs c ∧ c.length ≤ 4 ∧ (∀ k, k ∈ c → k.length = 32) ∧
  ∀ (H' : Hp) (R' : Reg) (D : Addr), Told CP CA H R a p d n sc ((Ks190.finding G c).map encN) H' R' → ((Ks190.finding G c).map encN).length ≤ 1024 → ¬ R' D → H' D = some (.lst (vI (Ks190.places G c))) → Q (.ref D) H'
theorem scFind : FnScope ["asking", "keys", "taken", "places", "key", "place"] ["asking", "keys"] (defScope sFind) := ⟨rfl, rfl, rfl, by decide +kernel, rfl, by decide +kernel, by decide +kernel⟩
theorem ok_find {f : Addr} {fd : FuncData} (F : Fun K "find_places" "find_places" sFind f fd) (T : Txt K mg CA CP CR) (DP : Def P w K mg base "drawer_places" 3 ["asking", "key", "taken"] (spDrawer CP CA)) :
    FnOk P w K mg base CX0 4 f fd ["asking", "keys"] (spFind CP CA) := by
  obtain ⟨fN, fdN, GN, mN, kN, bN⟩ := DP
  refine F.ok scFind (fun vs H Q E h => ?_) (fun cdv A outer s H vs Q E hr h => ?_)
  · obtain ⟨a, p, ks, rs, c, R, d, n, sc, rfl, _⟩ := h
    rfl
  · obtain ⟨a, p, ks, rs, c, R, d, n, sc, rfl, hA, hks, nks, hI, hc4, hc32, k⟩ := h
    have hu := hu_of hr
    refine ⟨_, pss_cons (ps_set (i := 2) scFind.nd rfl (Or.inl rfl) pe_dnewK)
      (pss_cons (ps_set (i := 3) scFind.nd rfl (Or.inl rfl) (pe_lst pa_nil))
      (pss_cons (ps_for PassesOwn.never rfl (pi_list (pv 1)) (pg_name (i := 4) scFind.nd rfl (Or.inl rfl))
        (pss_cons (ps_set (i := 3) scFind.nd rfl (Or.inl rfl) (pe_call GN (hr.mono (by decide)) (by rfl) mN kN bN .nil pass0 (pa_cons (pv 0) (pa_cons (pv 4) (pa_cons (pv 2) pa_nil)))))
        (pss_one (ps_for PassesOwn.never rfl (pi_list (pv 3)) (pg_name (i := 5) scFind.nd rfl (Or.inl rfl))
          (pss_one (ps_dput hu (pv 2) (pv 5) pe_bl rfl))))))
      (pss_one (ps_ret (pv 3))))), ?_⟩
    have hsz := sizeLine_eq
    intro td htd
    have s0 := Same.new (o := .dK []) htd
    refine ⟨by show 0 ≤ sizeLine; decide, fun pl0 hpl0 => ?_⟩
    have s1 := s0.trans (Same.new (o := .lst []) hpl0)
    have tpl : td ≠ pl0 := ne_of_none upd_same hpl0
    refine ⟨_, rfl, ks, rfl, ⟨_, SqL.of (s1 _ _ hks)⟩, ?_⟩
    have hI2 := hI.2
    refine for_list (K := K) (a := ks) (xs := rs) (fun i σ H' => ∃ (tk : List Nat) (res : List (List Nat × Nat)) (v4 v5 : Option V) (pl : Addr) (R1 : Reg) (kvs : List (Key × V)), σ = [some (.ref a), some (.ref ks), some (.ref td), some (.ref pl), v4, v5] ∧
      Told CP CA H R a p d n sc (told2 (c.take i) res) H' R1 ∧ ¬ R1 td ∧ H' td = some (.dK kvs) ∧ TakenIs kvs tk ∧ kvs.length ≤ tk.length ∧ tk.length = 64 * i ∧ res.length = i ∧ find G [] c = res ++ find G tk (c.drop i) ∧ (told2 (c.take i) res).length ≤ 256 * i ∧
      ¬ R1 pl ∧ H' pl = some (.lst (vI (lastOf res)))) ?_ (fun i σ H' _ ⟨_, _, _, _, _, _, _, _, N, _⟩ => SqL.of (N.2.1 _ _ hks nks)) ?_ ?_
    · refine ⟨[], [], none, none, pl0, R, [], rfl, ⟨?_, Same.keep s1, Grow.refl R H⟩, hA.out htd, ?_, TakenIs.nil, Nat.le_refl _, rfl, rfl, rfl, Nat.zero_le _, ?_, upd_same⟩
      · exact hA.same s1
      · rw [upd_ne tpl]
        exact upd_same
      · exact (hA.same s0).out hpl0
    · rintro i y σ H1 hi ⟨tk, res, v4, v5, pl, R1, kvs, rfl, N, ntd, htd1, hT, hkl, htl, hrl, hfd, hfew, npl, hpl⟩
      have hil : i < c.length := by
        rw [← hI.1]
        exact (List.getElem?_eq_some_iff.mp hi).1
      have he : c[i]? = some c[i] := List.getElem?_eq_getElem hil
      have hkm : c[i].length = 32 := hc32 _ (List.getElem_mem hil)
      obtain ⟨l, h1, h2, h3⟩ := hI2 i _ he
      rw [hi] at h1
      have e1 : y = .ref l := Option.some.inj h1
      subst e1
      generalize c[i] = key at he hkm h3
      have htk : tk.length ≤ 192 := by omega
      refine ⟨_, rfl, _, rfl, _, rfl, ?_⟩
      refine ⟨a, p, l, td, key, kvs, tk, R1, d, n, sc, told2 (c.take i) res, rfl, N.1, N.2.1 _ _ h3 h2, N.2.2.out h3 h2, by omega, htd1, ntd, hT, htk, by omega, fun H2 R2 D N2 hD nD hD2 => ?_⟩
      have k2 : Keep R H H2 := N.2.1.trans N.2.2 N2.2.1
      have g2 : Grow R H R2 := N.2.2.trans N.2.1 N2.2.2
      have ntd2 : ¬ R2 td := N2.2.2.out htd1 ntd
      have htd2 : H2 td = some (.dK kvs) := N2.2.1 _ _ htd1 ntd
      have tD : td ≠ D := ne_of htd2 hD2 fun z => by cases z
      have hlen : (sk key tk).1.length = 64 := sk_len htk
      refine ⟨_, rfl, D, rfl, ⟨_, SqL.of hD2⟩, ?_⟩
      refine for_list (K := K) (a := D) (xs := vI (sk key tk).1) (fun j σ H' => ∃ (v5 : Option V) (kvs' : List (Key × V)), σ = [some (.ref a), some (.ref ks), some (.ref td), some (.ref D), some (.ref l), v5] ∧
        Keep (Only td) H2 H' ∧ H' td = some (.dK kvs') ∧ TakenIs kvs' (tk ++ (sk key tk).1.take j) ∧ kvs'.length ≤ tk.length + j) ?_ (fun j σ H' _ ⟨_, _, _, k3, _⟩ => SqL.of (k3 _ _ hD2 tD.symm)) ?_ ?_
      · refine ⟨_, kvs, rfl, Keep.refl _ _, htd2, ?_, hkl⟩
        rw [List.take_zero, List.append_nil]
        exact hT
      · rintro j x σ H3 hj ⟨v5, kvs', rfl, k3, htd3, hT3, hl3⟩
        rw [vI_get] at hj
        obtain ⟨x, hx, rfl⟩ := Option.map_eq_some_iff.mp hj
        have hj64 : j < 64 := by
          have := (List.getElem?_eq_some_iff.mp hx).1
          omega
        refine ⟨_, rfl, _, rfl, td, _, rfl, DPut.k (k := Sum.inl (x : Int)) htd3 (by omega), ?_⟩
        refine ⟨_, putK kvs' (Sum.inl (x : Int)) (.bl true), rfl, fun b u e nb => ?_, upd_same, ?_, ?_⟩
        · rw [upd_ne nb]
          exact k3 b u e nb
        · rw [take_more hx, ← List.append_assoc]
          exact hT3.put x _
        · have := length_putK kvs' (Sum.inl (x : Int) : Key) (.bl true)
          omega
      · rintro σ H3 ⟨v5, kvs', rfl, k3, htd3, hT3, hl3⟩
        rw [vI_len, List.take_of_length_le (Nat.le_refl _)] at hT3
        rw [vI_len] at hl3
        have et := told2_more (x := sk key tk) he hrl
        refine ⟨tk ++ (sk key tk).1, res ++ [sk key tk], _, v5, D, R2, kvs', rfl, ⟨?_, k2.beside htd k3, g2⟩, ntd2, htd3, hT3, ?_, ?_, ?_, ?_, ?_, nD, ?_⟩
        · rw [et]
          exact N2.1.keep k3 fun b rb z => ntd2 (by rw [← z]; exact rb)
        · rw [List.length_append]
          exact hl3
        · rw [List.length_append]
          omega
        · rw [List.length_append, List.length_singleton]
          omega
        · rw [hfd, drop_cons he, find_cons, List.append_assoc]
          rfl
        · rw [et, List.length_append, asks_len]
          have := sk_far (k := key) htk
          omega
        · rw [lastOf_snoc]
          exact k3 _ _ hD2 tD.symm
    · rintro σ H1 ⟨tk, res, v4, v5, pl, R1, kvs, rfl, N, ntd, htd1, hT, hkl, htl, hrl, hfd, hfew, npl, hpl⟩
      have ef : find G [] c = res := by
        rw [hfd, hI.1, List.drop_length]
        exact List.append_nil _
      refine ⟨_, rfl, k H1 R1 pl ?_ ?_ npl ?_⟩
      · rw [finding_told, ef]
        rw [hI.1, List.take_length] at N
        exact N
      · rw [finding_told, ef]
        rw [hI.1, List.take_length] at hfew
        omega
      · show _ = some (HO.lst (vI ((find G [] c).getLast?.getD ([], 0)).1))
        rw [ef]
        exact hpl
end
end Hd

/-! ## part B7 -/
namespace Hd
open PySem PySem.Spec PyProof.Rows L2
open Ks190 (Medium Bytes Ev Ans find places finding lastKey act after say)
/-! ### any of a list of whole numbers from 0 on -/
theorem vI_vals : ∀ {l : List Nat} {us : List Value}, Vals (vI l) us → ∀ {i : Nat} {v : Value}, us[i]? = some v → ∃ (n : Nat) (t : Tok), l[i]? = some n ∧ v = .int (n : Int) t := by
  intro l us r i v h
  have hl : i < us.length := (List.getElem?_eq_some_iff.mp h).1
  have e := r.length
  rw [vI_len] at e
  have hx : (vI l)[i]? = some (V.int (l.getD i 0 : Nat)) := vI_at (by omega)
  obtain ⟨u, hu, ru⟩ := r.get hx
  rw [h] at hu
  have e2 : v = u := Option.some.inj hu
  subst e2
  obtain ⟨t, rfl⟩ := ru
  refine ⟨l.getD i 0, t, ?_, rfl⟩
  rw [List.getD_eq_getElem?_getD, List.getElem?_eq_getElem (by omega)]
  rfl
def rAnyN (K : PySem.W.Frag) : List V → Hp → VK → Prop := fun vs H Q => ∃ (a : Addr) (l : List Nat), vs = [V.ref a] ∧ SqL K H a (vI l) ∧ Q (.bl (l.any fun n => n != 0)) H
theorem cr_anyN {X : Cx} (hc : X.calm = true) : CallR X (.builtin "any") (rAnyN X.K) := by
  intro pins s σ H vs us Q I r h
  obtain ⟨a, l, rfl, hs, q⟩ := h
  obtain ⟨its, rv, hl, _⟩ := I.list hs
  rw [Vals.ref1 r]
  have hlen := rv.length
  rw [vI_len] at hlen
  have tr : TruthOf X.prog X.w X.A.in1 (fun i v => its.toArray[i]? = some v) (fun i => (l.getD i 0) != 0) := fun i v s Q E hv hq => by
    have hv' : its[i]? = some v := by simpa using hv
    obtain ⟨n, t, hn, rfl⟩ := vI_vals rv hv'
    have hg : l.getD i 0 = n := by rw [List.getD_eq_getElem?_getD, hn]; rfl
    have hq' : Q (l.getD i 0 != 0) s := hq
    rw [hg] at hq'
    refine PySem.P.truthy_int ?_
    have e : ((n : Int) != 0) = (n != 0) := by
      cases n with
      | zero => rfl
      | succ n => rfl
    rw [e]
    exact hq'
  refine call_any_walk (iter_any hl.isList fun s2 e2 st hne => ?_)
  subst e2
  refine ⟨_, _, _, _, _, _, _, rfl, Walks.list (A := X.A.in1) (I.ok.hd hc) _ a hne its.toArray, st, tr, fun h' tk hk => ?_⟩
  refine ⟨.bl _, H, I.kept fun b o eo => hk b o (fun hmem => ?_) (Heap.get?_push_of_some _ eo), ?_, q⟩
  · rcases List.mem_cons.mp hmem with e1 | hmem
    · exact absurd (e1 ▸ Heap.lt_size eo) (Nat.lt_irrefl _)
    · cases hmem
  · show Value.bool _ = Value.bool _
    have ea : ∀ m : List Nat, (List.range m.length).any (fun i => (m.getD i 0) != 0) = m.any fun n => n != 0 := by
      intro m
      induction m with
      | nil => rfl
      | cons x m ih =>
        rw [List.length_cons, List.range_succ_eq_map, List.any_cons, List.any_map, List.any_cons, ← ih]
        rfl
    rw [← ea, List.size_toArray, hlen]

/-! ### the places -/
theorem find_last : ∀ (c : List Bytes) (tk : List Nat), c ≠ [] → tk.length + 64 * c.length ≤ 256 → (lastOf (find G tk c)).length = 64 ∧ ∀ x, x ∈ lastOf (find G tk c) → x < 1024
  | [], _, h, _ => absurd rfl h
  | [k], tk, _, h => by
    have e : lastOf (find G tk [k]) = (sk k tk).1 := rfl
    have h1 : tk.length ≤ 192 := by
      rw [List.length_singleton] at h
      omega
    rw [e]
    exact ⟨sk_len h1, sk_lt h1⟩
  | k :: k2 :: r, tk, _, h => by
    rw [List.length_cons, List.length_cons] at h
    have ih := find_last (k2 :: r) (tk ++ (sk k tk).1) (by simp) (by
      rw [List.length_append, sk_len (by omega), List.length_cons]
      omega)
    have e : lastOf (find G tk (k :: k2 :: r)) = lastOf (find G (tk ++ (sk k tk).1) (k2 :: r)) := by
      rw [find_cons, find_cons]
      unfold lastOf
      rw [List.getLast?_cons_cons]
    rw [e]
    exact ih
theorem places_ok {c : List Bytes} (h1 : 1 ≤ c.length) (h4 : c.length ≤ 4) : (places G c).length = 64 ∧ ∀ x, x ∈ places G c → x < 1024 :=
  find_last c [] (by intro z; subst z; simp at h1) (by rw [List.length_nil]; omega)
theorem places_at {c : List Bytes} (h1 : 1 ≤ c.length) (h4 : c.length ≤ 4) {i : Nat} (hi : i < 64) : i < (places G c).length ∧ (places G c).getD i 0 < 1024 := by
  obtain ⟨hl, hx⟩ := places_ok h1 h4
  refine ⟨by omega, hx _ ?_⟩
  rw [List.getD_eq_getElem?_getD, List.getElem?_eq_getElem (by omega)]
  exact List.getElem_mem _
theorem atI_neg1 {α : Type} {xs : List α} {v : α} (h : xs[xs.length - 1]? = some v) : atI xs (-1) = some v := by
  have hl := (List.getElem?_eq_some_iff.mp h).1
  have e : ixN xs.length (-1) = some (xs.length - 1) := by
    unfold ixN
    rw [if_neg (by decide), if_pos (by omega)]
    congr 1
    omega
  unfold atI
  rw [e]
  exact h
theorem last_at {c : List Bytes} (h1 : 1 ≤ c.length) : c[c.length - 1]? = some (lastKey c) := by
  unfold lastKey
  rw [List.getLast?_eq_getElem?, List.getElem?_eq_getElem (by omega)]
  rfl
theorem last_mem {c : List Bytes} (h1 : 1 ≤ c.length) : lastKey c ∈ c := List.mem_of_getElem? (last_at h1)
/-- what refuses, what answers -/
def outV (r : Ans) : List V := (r.ret :: Ks190Neutral.ints r.out).map V.int
section
variable {P : Program} {w : World} {K : PySem.W.Frag} {mg : Str → Option Value} {base : Heap} {CA CP CR : Addr}
theorem Told.trans {H H1 H2 : Hp} {R R1 R2 : Reg} {a p : Addr} {d2 : Medium} {n2 : Nat} {sc2 : Bytes} {tl2 : List (List Nat)} {d0 : Medium} {n0 : Nat} {sc0 : Bytes} {tl0 : List (List Nat)}
    (x : Told CP CA H R a p d0 n0 sc0 tl0 H1 R1) (y : Told CP CA H1 R1 a p d2 n2 sc2 tl2 H2 R2) : Told CP CA H R a p d2 n2 sc2 tl2 H2 R2 := ⟨y.1, x.2.1.trans x.2.2 y.2.1, x.2.2.trans x.2.1 y.2.2⟩
theorem Told.same {H H1 H2 : Hp} {R R1 : Reg} {a p : Addr} {d : Medium} {n : Nat} {sc : Bytes} {tl : List (List Nat)} (x : Told CP CA H R a p d n sc tl H1 R1) (s : Same H1 H2) : Told CP CA H R a p d n sc tl H2 R1 :=
  ⟨x.1.same s, x.2.1.trans x.2.2 (Same.keep s), x.2.2⟩
/-- the keys as they lie -/
structure KeysAt (H : Hp) (R : Reg) (ks : Addr) (rs : List V) (c : List Bytes) : Prop where
  ob : H ks = some (.lst rs)
  nr : ¬ R ks
  its : Items H (fun l => ¬ R l) rs c
  k32 : ∀ k, k ∈ c → k.length = 32
theorem KeysAt.told {H H1 : Hp} {R R1 : Reg} {ks a p : Addr} {rs : List V} {c : List Bytes} {d : Medium} {n : Nat} {sc : Bytes} {tl : List (List Nat)} (h : KeysAt H R ks rs c) (x : Told CP CA H R a p d n sc tl H1 R1) : KeysAt H1 R1 ks rs c :=
  ⟨x.2.1 _ _ h.ob h.nr, x.2.2.out h.ob h.nr, h.its.mono fun l o z e => ⟨x.2.2.out e z, x.2.1 _ _ e z⟩, h.k32⟩
theorem KeysAt.same {H H1 : Hp} {R : Reg} {ks : Addr} {rs : List V} {c : List Bytes} (h : KeysAt H R ks rs c) (s : Same H H1) : KeysAt H1 R ks rs c := ⟨s _ _ h.ob, h.nr, h.its.mono fun l o z e => ⟨z, s _ _ e⟩, h.k32⟩
theorem KeysAt.last {H : Hp} {R : Reg} {ks : Addr} {rs : List V} {c : List Bytes} (h : KeysAt H R ks rs c) (h1 : 1 ≤ c.length) : ∃ l, atI rs (-1) = some (V.ref l) ∧ ¬ R l ∧ H l = some (.lst (vI (lastKey c))) ∧ (lastKey c).length = 32 := by
  obtain ⟨l, e1, e2, e3⟩ := h.its.2 _ _ (last_at h1)
  refine ⟨l, atI_neg1 ?_, e2, e3, h.k32 _ (last_mem h1)⟩
  rw [h.its.1]
  exact e1
/-- what put, get and drop leave: r is what's asked and answered -/
def Done (CP CA : Addr) (H : Hp) (R : Reg) (a p : Addr) (d : Medium) (n : Nat) (sc : Bytes) (r : List Ev × Ans) (Q : VK) : Prop :=
  ∀ (H' : Hp) (R' : Reg) (D : Addr) (n' : Nat), n' ≤ n + 1 → Told CP CA H R a p (after d r.1) n' sc (r.1.map encN) H' R' → ¬ R' D → H' D = some (.lst (outV r.2)) → Q (.ref D) H'
theorem act_put (d : Medium) (c : List Bytes) (sc x : Bytes) {slot : Nat} (h : slot < 64) : act G d [sc] (.put (some c) slot x) =
    (finding G c ++ [.any sc, .mix (lastKey c) sc (G.mix (lastKey c) sc), .write ((places G c).getD slot 0) (Ks190.pageOf G (lastKey c) sc x)], say 0) := by
  show (if Ks190.SLOTS ≤ slot then _ else _ : List Ev × Ans) = _
  rw [if_neg (show ¬ Ks190.SLOTS ≤ slot from Nat.not_le.mpr h)]
  rfl
theorem act_drop (d : Medium) (c : List Bytes) (sc : Bytes) {slot : Nat} (h : slot < 64) : act G d [sc] (.drop (some c) slot) =
    (finding G c ++ [.any sc, .write ((places G c).getD slot 0) sc], say 0) := by
  show (if Ks190.SLOTS ≤ slot then _ else _ : List Ev × Ans) = _
  rw [if_neg (show ¬ Ks190.SLOTS ≤ slot from Nat.not_le.mpr h)]
  rfl
theorem act_get (d : Medium) (c : List Bytes) (ch : List Bytes) {slot : Nat} (h : slot < 64) : act G d ch (.get (some c) slot) =
    (finding G c ++ [.read ((places G c).getD slot 0) (d ((places G c).getD slot 0)), .mix (lastKey c) ((d ((places G c).getD slot 0)).take 16) (G.mix (lastKey c) ((d ((places G c).getD slot 0)).take 16))],
      match Ks190.under G (lastKey c) (d ((places G c).getD slot 0)) with | some x => { ret := 0, out := x } | none => say (-2)) := by
  show (if Ks190.SLOTS ≤ slot then _ else _ : List Ev × Ans) = _
  rw [if_neg (show ¬ Ks190.SLOTS ≤ slot from Nat.not_le.mpr h)]
  rfl
def spPut (CP CA : Addr) : Sp := fun vs H Q _ => ∃ (a p ks da : Addr) (slot : Nat) (rs : List V) (c : List Bytes) (data : Bytes) (R : Reg) (d : Medium) (n : Nat) (sc : Bytes), vs = [.ref a, .int (slot : Int), .ref ks, .ref da] ∧ AskAt CP CA H R a p d n sc [] ∧
  KeysAt H R ks rs c ∧ H da = some (.lst (vI data)) ∧ ¬ R da ∧ data.length = 64 ∧ n < 100000 ∧ (refused c.length slot = false → sc.length = 16) ∧
  Done CP CA H R a p d n sc (resOf (refused c.length slot) (act G d [sc] (.put (some c) slot data))) Q
theorem scPut : FnScope ["asking", "slot", "keys", "data", "place", "salt", "pad"] ["asking", "slot", "keys", "data"] (defScope sPut) := ⟨rfl, rfl, rfl, by decide +kernel, rfl, by decide +kernel, by decide +kernel⟩
theorem zeros16 : (List.replicate (16 : Int).toNat [V.int 0]).flatten = vI (Ks190.zeros 16) := by decide +kernel
theorem after_put (d : Medium) (c : List Bytes) (s k b : Bytes) (p : Nat) : after d (finding G c ++ [.any s, .mix k s (G.mix k s), .write p b]) = wr d p b := by
  rw [after_append, after_quiet d _ (finding_quiet c)]
  rfl
theorem ok_put {f : Addr} {fd : FuncData} (F : Fun K "put_data" "put_data" sPut f fd) (T : Txt K mg CA CP CR) (DR : Def P w K mg base "is_refused" 1 ["slot", "keys"] (spRefused K)) (DF : Def P w K mg base "find_places" 4 ["asking", "keys"] (spFind CP CA))
    (DU : Def P w K mg base "under_pad" 1 ["row", "pad"] (spUnder K)) (MC : Mth P w K mg base CA "chance" 1 ["self", "size"] (spChance CP CA)) (MP : Mth P w K mg base CA "pad" 2 ["self", "key", "salt"] (spPad CP CA)) (MW : Mth P w K mg base CA "write" 2 ["self", "place", "content"] (spWrite CP CA)) :
    FnOk P w K mg base CX0 5 f fd ["asking", "slot", "keys", "data"] (spPut CP CA) := by
  obtain ⟨fR, fdR, GR, mR, kR, bR⟩ := DR
  obtain ⟨fF, fdF, GF, mF, kF, bF⟩ := DF
  obtain ⟨fU, fdU, GU, mU, kU, bU⟩ := DU
  obtain ⟨fC, fdC, GC, mC, bC⟩ := MC
  obtain ⟨fP, fdP, GP, mP, bP⟩ := MP
  obtain ⟨fW, fdW, GW, mW, bW⟩ := MW
  refine F.ok scPut (fun vs H Q E h => ?_) (fun cdv A outer s H vs Q E hr h => ?_)
  · obtain ⟨a, p, ks, da, slot, rs, c, data, R, d, n, sc, rfl, _⟩ := h
    rfl
  · obtain ⟨a, p, ks, da, slot, rs, c, data, R, d, n, sc, rfl, hA, hK, hda, nda, hdl, hn, hsc, k⟩ := h
    obtain ⟨t1, g1⟩ := T.saltBytes
    obtain ⟨t2, g2⟩ := T.markBytes
    refine ⟨_, pss_cons (ps_if (pt_val (pe_call GR (hr.mono (by decide)) (by rfl) mR kR bR .nil pass0 (pa_cons (pv 1) (pa_cons (pv 2) pa_nil)))) (pss_one (ps_ret (pe_lst (pa_cons (pe_un un_neg pe_int) pa_nil)))) pss_nil)
      (pss_cons (ps_set (i := 4) scPut.nd rfl (Or.inl rfl) (pe_ix ix_list (pe_call GF (hr.mono (by decide)) (by rfl) mF kF bF .nil pass0 (pa_cons (pv 0) (pa_cons (pv 2) pa_nil))) (pv 1) (fun _ _ => rfl)))
      (pss_cons (ps_set (i := 5) scPut.nd rfl (Or.inl rfl) (pe_meth (pv 0) T.cA mC GC (hr.mono (by decide)) bC .nil pass0 (pa_cons (pe_glob (v := .int 16) (by rfl) g1 ⟨_, rfl⟩) pa_nil)))
      (pss_cons (ps_set (i := 6) scPut.nd rfl (Or.inl rfl) (pe_meth (pv 0) T.cA mP GP (hr.mono (by decide)) bP .nil pass0 (pa_cons (pe_ix ix_list (pv 2) (pe_un un_neg pe_int) (fun _ _ => rfl)) (pa_cons (pv 5) pa_nil))))
      (pss_cons (ps_expr (pe_meth (pv 0) T.cA mW GW (hr.mono (by decide)) bW .nil pass0 (pa_cons (pv 4) (pa_cons (pe_op op_cat (pv 5) (pe_call GU (hr.mono (by decide)) (by rfl) mU kU bU .nil pass0
        (pa_cons (pe_op op_cat (pe_op op_rep (pe_lst (pa_cons pe_int pa_nil)) (pe_glob (v := .int 16) (by rfl) g2 ⟨_, rfl⟩)) (pv 3)) (pa_cons (pv 6) pa_nil)))) pa_nil))))
      (pss_one (ps_ret (pe_lst (pa_cons pe_int pa_nil)))))))), ?_⟩
    have hsz := sizeLine_eq
    refine ⟨_, rfl, _, rfl, slot, ks, rs, rfl, SqL.of hK.ob, _, rfl, ?_⟩
    rw [hK.its.1]
    cases hrf : refused c.length slot with
    | true =>
      rw [hrf] at k
      refine iteT ?_
      refine ⟨_, rfl, by show 1 ≤ sizeLine; decide, fun D hD => ?_⟩
      have sD := Same.new (o := .lst [V.int (-22)]) hD
      exact k _ R D n (Nat.le_succ _) ⟨hA.same sD, Same.keep sD, Grow.refl R H⟩ (hA.out hD) upd_same
    | false =>
      rw [hrf] at k
      obtain ⟨h1, h4, hs64⟩ := ref_ok hrf
      have hsc := hsc hrf
      obtain ⟨pi, plt⟩ := places_at h1 h4 hs64
      rw [act_put d c sc data hs64] at k
      refine iteF ?_
      refine ⟨_, rfl, _, rfl, a, p, ks, rs, c, R, d, n, sc, rfl, hA, hK.ob, hK.nr, hK.its, h4, hK.k32, fun H1 R1 D1 N1 few1 nD1 hD1 => ?_⟩
      refine ⟨_, rfl, D1, _, _, _, rfl, rfl, SqL.of hD1, at_of (j := slot) rfl (vI_at pi), ?_⟩
      generalize hpl : (places G c).getD slot 0 = place at plt k
      obtain ⟨S1, s1, tt1, dxa1, rs1, B1⟩ := id N1.1
      refine ⟨_, rfl, a, dxa1, _, rfl, B1.ob, aF_no _ _ _ (by decide +kernel) (by decide +kernel) (by decide +kernel), ?_⟩
      refine ⟨a, p, 16, R1, d, n, sc, _, rfl, N1.1, by omega, fun H2 R2 D2 N2 hD2n nD2 hD2 => ?_⟩
      rw [List.take_of_length_le (by omega)] at hD2
      have T2 := N1.trans N2
      have K2 := hK.told T2
      obtain ⟨l, hlat, nl, hl, hl32⟩ := K2.last h1
      obtain ⟨S2, s2, tt2, dxa2, rs2, B2⟩ := id N2.1
      refine ⟨_, rfl, a, dxa2, _, rfl, B2.ob, aF_no _ _ _ (by decide +kernel) (by decide +kernel) (by decide +kernel), ?_⟩
      refine ⟨_, rfl, _, rfl, ks, rs, -1, _, rfl, rfl, SqL.of K2.ob, hlat, _, rfl, ?_⟩
      refine ⟨a, p, l, D2, lastKey c, sc, R2, d, n, sc, _, rfl, N2.1, hl, nl, hD2, nD2, hl32, hsc, by rw [List.length_append, List.length_singleton]; omega, fun H3 R3 D3 N3 hD3n nD3 hD3 => ?_⟩
      have T3 := T2.trans N3
      obtain ⟨S3, s3, tt3, dxa3, rs3, B3⟩ := id N3.1
      have hD23 : H3 D2 = some (.lst (vI sc)) := N3.2.1 _ _ hD2 nD2
      have nD23 : ¬ R3 D2 := N3.2.2.out hD2 nD2
      have hda3 : H3 da = some (.lst (vI data)) := T3.2.1 _ _ hda nda
      refine ⟨_, rfl, a, dxa3, _, rfl, B3.ob, aF_no _ _ _ (by decide +kernel) (by decide +kernel) (by decide +kernel), ?_⟩
      refine ⟨_, rfl, _, rfl, by show 1 ≤ sizeLine; decide, fun x1 hx1 => ?_⟩
      have sa := Same.new (o := .lst [V.int 0]) hx1
      refine ⟨x1, 16, _, rfl, rfl, upd_same, by decide, by decide, by show 1 * 16 ≤ sizeLine; decide, fun x2 hx2 => ?_⟩
      have sb := sa.trans (Same.new (o := .lst (List.replicate (16 : Int).toNat [V.int 0]).flatten) hx2)
      refine ⟨_, rfl, x2, da, _, _, rfl, rfl, upd_same, sb _ _ hda3, ?_, fun x3 hx3 => ?_⟩
      · rw [zeros16, vI_len, vI_len, hdl, hsz]
        decide
      rw [zeros16] at sb hx3 ⊢
      have ec : vI (Ks190.zeros 16) ++ vI data = vI (Ks190.zeros 16 ++ data) := (vI_app _ _).symm
      rw [ec]
      have sc3 := sb.trans (Same.new (o := .lst (vI (Ks190.zeros 16 ++ data))) hx3)
      refine ⟨_, rfl, ?_⟩
      refine ⟨x3, D3, Ks190.zeros 16 ++ data, G.mix (lastKey c) sc, rfl, SqL.of upd_same, SqL.of (sc3 _ _ hD3), ?_, fun x4 H4 hx4 s4 hx4' => ?_⟩
      · rw [List.length_append, hdl]
        show 16 + 64 ≤ 1000
        decide
      have s34 : Same H3 H4 := sc3.trans s4
      have hxl : (Ks190.xor (Ks190.zeros 16 ++ data) (G.mix (lastKey c) sc)).length = 80 := by
        rw [xor_len, mix_len, List.length_append, hdl]
        rfl
      refine ⟨D2, x4, _, _, rfl, rfl, s34 _ _ hD23, hx4', ?_, fun x5 hx5 => ?_⟩
      · rw [vI_len, vI_len, hsc, hxl, hsz]
        decide
      have eg : vI sc ++ vI (Ks190.xor (Ks190.zeros 16 ++ data) (G.mix (lastKey c) sc)) = vI (Ks190.pageOf G (lastKey c) sc data) := (vI_app _ _).symm
      rw [eg]
      have s35 := s34.trans (Same.new (o := .lst (vI (Ks190.pageOf G (lastKey c) sc data))) hx5)
      have T5 := T3.same s35
      have nx5 : ¬ R3 x5 := T3.1.out (s34.free hx5)
      refine ⟨a, p, x5, place, Ks190.pageOf G (lastKey c) sc data, R3, d, n, sc, _, rfl, T5.1, upd_same, nx5, ?_, hn, ?_, fun H6 R6 N6 => ?_⟩
      · show (sc ++ _).length = 96
        rw [List.length_append, hsc, hxl]
      · rw [List.length_append, List.length_append, List.length_singleton, List.length_singleton]
        omega
      have T6 := T5.trans N6
      refine ⟨by show 1 ≤ sizeLine; decide, fun D hD => ?_⟩
      have sD := Same.new (o := .lst [V.int 0]) hD
      have T7 := T6.same sD
      refine k _ R6 D (n + 1) (Nat.le_refl _) ?_ (T6.1.out hD) upd_same
      · show Told CP CA H R a p (after d (finding G c ++ [Ev.any sc, Ev.mix (lastKey c) sc (G.mix (lastKey c) sc), Ev.write place (Ks190.pageOf G (lastKey c) sc data)])) (n + 1) sc ((finding G c ++ [Ev.any sc, Ev.mix (lastKey c) sc (G.mix (lastKey c) sc), Ev.write place (Ks190.pageOf G (lastKey c) sc data)]).map encN) _ R6
        rw [after_put, List.map_append]
        have et : (finding G c).map encN ++ [Ev.any sc, Ev.mix (lastKey c) sc (G.mix (lastKey c) sc), Ev.write place (Ks190.pageOf G (lastKey c) sc data)].map encN = (((finding G c).map encN ++ [[3, 16]]) ++ [5 :: sc]) ++ [2 :: place :: Ks190.pageOf G (lastKey c) sc data] := by
          rw [List.append_assoc, List.append_assoc]
          show _ ++ ([3, sc.length] :: _) = _
          rw [hsc]
          rfl
        rw [et]
        exact T7

/-! ### drop_data -/
def spDrop (CP CA : Addr) : Sp := fun vs H Q _ => ∃ (a p ks : Addr) (slot : Nat) (rs : List V) (c : List Bytes) (R : Reg) (d : Medium) (n : Nat) (sc : Bytes), vs = [.ref a, .int (slot : Int), .ref ks] ∧ AskAt CP CA H R a p d n sc [] ∧
  KeysAt H R ks rs c ∧ n < 100000 ∧ (refused c.length slot = false → sc.length = 96) ∧
  Done CP CA H R a p d n sc (resOf (refused c.length slot) (act G d [sc] (.drop (some c) slot))) Q
theorem scDrop : FnScope ["asking", "slot", "keys", "place"] ["asking", "slot", "keys"] (defScope sDrop) := ⟨rfl, rfl, rfl, by decide +kernel, rfl, by decide +kernel, by decide +kernel⟩
theorem after_drop (d : Medium) (c : List Bytes) (s : Bytes) (p : Nat) : after d (finding G c ++ [.any s, .write p s]) = wr d p s := by
  rw [after_append, after_quiet d _ (finding_quiet c)]
  rfl
theorem ok_drop {f : Addr} {fd : FuncData} (F : Fun K "drop_data" "drop_data" sDrop f fd) (T : Txt K mg CA CP CR) (DR : Def P w K mg base "is_refused" 1 ["slot", "keys"] (spRefused K)) (DF : Def P w K mg base "find_places" 4 ["asking", "keys"] (spFind CP CA))
    (MC : Mth P w K mg base CA "chance" 1 ["self", "size"] (spChance CP CA)) (MW : Mth P w K mg base CA "write" 2 ["self", "place", "content"] (spWrite CP CA)) :
    FnOk P w K mg base CX0 5 f fd ["asking", "slot", "keys"] (spDrop CP CA) := by
  obtain ⟨fR, fdR, GR, mR, kR, bR⟩ := DR
  obtain ⟨fF, fdF, GF, mF, kF, bF⟩ := DF
  obtain ⟨fC, fdC, GC, mC, bC⟩ := MC
  obtain ⟨fW, fdW, GW, mW, bW⟩ := MW
  refine F.ok scDrop (fun vs H Q E h => ?_) (fun cdv A outer s H vs Q E hr h => ?_)
  · obtain ⟨a, p, ks, slot, rs, c, R, d, n, sc, rfl, _⟩ := h
    rfl
  · obtain ⟨a, p, ks, slot, rs, c, R, d, n, sc, rfl, hA, hK, hn, hsc, k⟩ := h
    obtain ⟨t1, g1⟩ := T.pageBytes
    refine ⟨_, pss_cons (ps_if (pt_val (pe_call GR (hr.mono (by decide)) (by rfl) mR kR bR .nil pass0 (pa_cons (pv 1) (pa_cons (pv 2) pa_nil)))) (pss_one (ps_ret (pe_lst (pa_cons (pe_un un_neg pe_int) pa_nil)))) pss_nil)
      (pss_cons (ps_set (i := 3) scDrop.nd rfl (Or.inl rfl) (pe_ix ix_list (pe_call GF (hr.mono (by decide)) (by rfl) mF kF bF .nil pass0 (pa_cons (pv 0) (pa_cons (pv 2) pa_nil))) (pv 1) (fun _ _ => rfl)))
      (pss_cons (ps_expr (pe_meth (pv 0) T.cA mW GW (hr.mono (by decide)) bW .nil pass0 (pa_cons (pv 3) (pa_cons (pe_meth (pv 0) T.cA mC GC (hr.mono (by decide)) bC .nil pass0 (pa_cons (pe_glob (v := .int 96) (by rfl) g1 ⟨_, rfl⟩) pa_nil)) pa_nil))))
      (pss_one (ps_ret (pe_lst (pa_cons pe_int pa_nil)))))), ?_⟩
    have hsz := sizeLine_eq
    refine ⟨_, rfl, _, rfl, slot, ks, rs, rfl, SqL.of hK.ob, _, rfl, ?_⟩
    rw [hK.its.1]
    cases hrf : refused c.length slot with
    | true =>
      rw [hrf] at k
      refine iteT ?_
      refine ⟨_, rfl, by show 1 ≤ sizeLine; decide, fun D hD => ?_⟩
      have sD := Same.new (o := .lst [V.int (-22)]) hD
      exact k _ R D n (Nat.le_succ _) ⟨hA.same sD, Same.keep sD, Grow.refl R H⟩ (hA.out hD) upd_same
    | false =>
      rw [hrf] at k
      obtain ⟨h1, h4, hs64⟩ := ref_ok hrf
      have hsc := hsc hrf
      obtain ⟨pi, plt⟩ := places_at h1 h4 hs64
      rw [act_drop d c sc hs64] at k
      refine iteF ?_
      refine ⟨_, rfl, _, rfl, a, p, ks, rs, c, R, d, n, sc, rfl, hA, hK.ob, hK.nr, hK.its, h4, hK.k32, fun H1 R1 D1 N1 few1 nD1 hD1 => ?_⟩
      refine ⟨_, rfl, D1, _, _, _, rfl, rfl, SqL.of hD1, at_of (j := slot) rfl (vI_at pi), ?_⟩
      generalize hpl : (places G c).getD slot 0 = place at plt k
      obtain ⟨S1, s1, tt1, dxa1, rs1, B1⟩ := id N1.1
      refine ⟨_, rfl, a, dxa1, _, rfl, B1.ob, aF_no _ _ _ (by decide +kernel) (by decide +kernel) (by decide +kernel), ?_⟩
      refine ⟨_, rfl, _, rfl, a, dxa1, _, rfl, B1.ob, aF_no _ _ _ (by decide +kernel) (by decide +kernel) (by decide +kernel), ?_⟩
      refine ⟨a, p, 96, R1, d, n, sc, _, rfl, N1.1, by omega, fun H2 R2 D2 N2 hD2n nD2 hD2 => ?_⟩
      rw [List.take_of_length_le (by omega)] at hD2
      have T2 := N1.trans N2
      refine ⟨a, p, D2, place, sc, R2, d, n, sc, _, rfl, N2.1, hD2, nD2, hsc, hn, by rw [List.length_append, List.length_singleton]; omega, fun H3 R3 N3 => ?_⟩
      have T3 := T2.trans N3
      refine ⟨by show 1 ≤ sizeLine; decide, fun D hD => ?_⟩
      have T7 := T3.same (Same.new (o := .lst [V.int 0]) hD)
      refine k _ R3 D (n + 1) (Nat.le_refl _) ?_ (T3.1.out hD) upd_same
      show Told CP CA H R a p (after d (finding G c ++ [Ev.any sc, Ev.write place sc])) (n + 1) sc ((finding G c ++ [Ev.any sc, Ev.write place sc]).map encN) _ R3
      rw [after_drop, List.map_append]
      have et : (finding G c).map encN ++ [Ev.any sc, Ev.write place sc].map encN = ((finding G c).map encN ++ [[3, 96]]) ++ [2 :: place :: sc] := by
        rw [List.append_assoc]
        show _ ++ ([3, sc.length] :: _) = _
        rw [hsc]
        rfl
      rw [et]
      exact T7
/-! ### get_data -/
def spGet (CP CA : Addr) : Sp := fun vs H Q _ => ∃ (a p ks : Addr) (slot : Nat) (rs : List V) (c : List Bytes) (R : Reg) (d : Medium) (n : Nat) (sc : Bytes), vs = [.ref a, .int (slot : Int), .ref ks] ∧ AskAt CP CA H R a p d n sc [] ∧
  KeysAt H R ks rs c ∧ Done CP CA H R a p d n sc (resOf (refused c.length slot) (act G d [sc] (.get (some c) slot))) Q
theorem scGet : FnScope ["asking", "slot", "keys", "place", "content", "pad", "shown"] ["asking", "slot", "keys"] (defScope sGet) := ⟨rfl, rfl, rfl, by decide +kernel, rfl, by decide +kernel, by decide +kernel⟩
theorem after_get (d : Medium) (c : List Bytes) (b k z m : Bytes) (p : Nat) : after d (finding G c ++ [.read p b, .mix k z m]) = d := by
  rw [after_append, after_quiet d _ (finding_quiet c)]
  rfl
theorem any_zeros : ∀ (l : List Nat), (l.any fun n => n != 0) = false → l = Ks190.zeros l.length
  | [], _ => rfl
  | x :: r, h => by
    rw [List.any_cons, Bool.or_eq_false_iff] at h
    have hx : x = 0 := by
      have z := h.1
      simpa using z
    have ih := any_zeros r h.2
    show x :: r = 0 :: Ks190.zeros r.length
    rw [hx, ← ih]
theorem zeros_any : ∀ (n : Nat), ((Ks190.zeros n).any fun n => n != 0) = false
  | 0 => rfl
  | n + 1 => by
    show ((0 :: Ks190.zeros n).any fun n => n != 0) = false
    rw [List.any_cons, zeros_any n]
    rfl
theorem ok_get {f : Addr} {fd : FuncData} (F : Fun K "get_data" "get_data" sGet f fd) (T : Txt K mg CA CP CR) (DR : Def P w K mg base "is_refused" 1 ["slot", "keys"] (spRefused K)) (DF : Def P w K mg base "find_places" 4 ["asking", "keys"] (spFind CP CA))
    (DU : Def P w K mg base "under_pad" 1 ["row", "pad"] (spUnder K)) (MR : Mth P w K mg base CA "read" 2 ["self", "place"] (spRead CP CA)) (MP : Mth P w K mg base CA "pad" 2 ["self", "key", "salt"] (spPad CP CA)) :
    FnOk P w K mg base CX0 5 f fd ["asking", "slot", "keys"] (spGet CP CA) := by
  obtain ⟨fR, fdR, GR, mR, kR, bR⟩ := DR
  obtain ⟨fF, fdF, GF, mF, kF, bF⟩ := DF
  obtain ⟨fU, fdU, GU, mU, kU, bU⟩ := DU
  obtain ⟨fC, fdC, GC, mC, bC⟩ := MR
  obtain ⟨fP, fdP, GP, mP, bP⟩ := MP
  refine F.ok scGet (fun vs H Q E h => ?_) (fun cdv A outer s H vs Q E hr h => ?_)
  · obtain ⟨a, p, ks, slot, rs, c, R, d, n, sc, rfl, _⟩ := h
    rfl
  · obtain ⟨a, p, ks, slot, rs, c, R, d, n, sc, rfl, hA, hK, k⟩ := h
    obtain ⟨t1, g1⟩ := T.saltBytes
    obtain ⟨t2, g2⟩ := T.markBytes
    refine ⟨_, pss_cons (ps_if (pt_val (pe_call GR (hr.mono (by decide)) (by rfl) mR kR bR .nil pass0 (pa_cons (pv 1) (pa_cons (pv 2) pa_nil)))) (pss_one (ps_ret (pe_lst (pa_cons (pe_un un_neg pe_int) pa_nil)))) pss_nil)
      (pss_cons (ps_set (i := 3) scGet.nd rfl (Or.inl rfl) (pe_ix ix_list (pe_call GF (hr.mono (by decide)) (by rfl) mF kF bF .nil pass0 (pa_cons (pv 0) (pa_cons (pv 2) pa_nil))) (pv 1) (fun _ _ => rfl)))
      (pss_cons (ps_set (i := 4) scGet.nd rfl (Or.inl rfl) (pe_meth (pv 0) T.cA mC GC (hr.mono (by decide)) bC .nil pass0 (pa_cons (pv 3) pa_nil)))
      (pss_cons (ps_set (i := 5) scGet.nd rfl (Or.inl rfl) (pe_meth (pv 0) T.cA mP GP (hr.mono (by decide)) bP .nil pass0 (pa_cons (pe_ix ix_list (pv 2) (pe_un un_neg pe_int) (fun _ _ => rfl)) (pa_cons (pe_slice sl_list (pv 4) po_none (po_some (pe_glob (v := .int 16) (by rfl) g1 ⟨_, rfl⟩))) pa_nil))))
      (pss_cons (ps_set (i := 6) scGet.nd rfl (Or.inl rfl) (pe_call GU (hr.mono (by decide)) (by rfl) mU kU bU .nil pass0 (pa_cons (pe_slice sl_list (pv 4) (po_some (pe_glob (v := .int 16) (by rfl) g1 ⟨_, rfl⟩)) po_none) (pa_cons (pv 5) pa_nil))))
      (pss_cons (ps_if (pt_val (pe_callB (cr_anyN rfl) (by rfl) T.any (by decide +kernel) (pa_cons (pe_slice sl_list (pv 6) po_none (po_some (pe_glob (v := .int 16) (by rfl) g2 ⟨_, rfl⟩))) pa_nil))) (pss_one (ps_ret (pe_lst (pa_cons (pe_un un_neg pe_int) pa_nil)))) pss_nil)
      (pss_one (ps_ret (pe_op op_cat (pe_lst (pa_cons pe_int pa_nil)) (pe_slice sl_list (pv 6) (po_some (pe_glob (v := .int 16) (by rfl) g2 ⟨_, rfl⟩)) po_none))))))))), ?_⟩
    have hsz := sizeLine_eq
    refine ⟨_, rfl, _, rfl, slot, ks, rs, rfl, SqL.of hK.ob, _, rfl, ?_⟩
    rw [hK.its.1]
    cases hrf : refused c.length slot with
    | true =>
      rw [hrf] at k
      refine iteT ?_
      refine ⟨_, rfl, by show 1 ≤ sizeLine; decide, fun D hD => ?_⟩
      have sD := Same.new (o := .lst [V.int (-22)]) hD
      exact k _ R D n (Nat.le_succ _) ⟨hA.same sD, Same.keep sD, Grow.refl R H⟩ (hA.out hD) upd_same
    | false =>
      rw [hrf] at k
      obtain ⟨h1, h4, hs64⟩ := ref_ok hrf
      obtain ⟨pi, plt⟩ := places_at h1 h4 hs64
      rw [act_get d c [sc] hs64] at k
      refine iteF ?_
      refine ⟨_, rfl, _, rfl, a, p, ks, rs, c, R, d, n, sc, rfl, hA, hK.ob, hK.nr, hK.its, h4, hK.k32, fun H1 R1 D1 N1 few1 nD1 hD1 => ?_⟩
      refine ⟨_, rfl, D1, _, _, _, rfl, rfl, SqL.of hD1, at_of (j := slot) rfl (vI_at pi), ?_⟩
      generalize hpl : (places G c).getD slot 0 = place at plt k
      have hb : (d place).length = 96 := by
        obtain ⟨S0, s0, tt0, dxa0, rs0, B0⟩ := id hA
        exact B0.pg.len place plt
      generalize hbe : d place = b at hb k
      obtain ⟨S1, s1, tt1, dxa1, rs1, B1⟩ := id N1.1
      refine ⟨_, rfl, a, dxa1, _, rfl, B1.ob, aF_no _ _ _ (by decide +kernel) (by decide +kernel) (by decide +kernel), ?_⟩
      refine ⟨_, rfl, a, p, place, R1, d, n, sc, _, rfl, N1.1, plt, by omega, fun H2 R2 D2 N2 hD2n nD2 hD2 => ?_⟩
      rw [hbe] at hD2
      have T2 := N1.trans N2
      have K2 := hK.told T2
      obtain ⟨l, hlat, nl, hl, hl32⟩ := K2.last h1
      obtain ⟨S2, s2, tt2, dxa2, rs2, B2⟩ := id N2.1
      refine ⟨_, rfl, a, dxa2, _, rfl, B2.ob, aF_no _ _ _ (by decide +kernel) (by decide +kernel) (by decide +kernel), ?_⟩
      refine ⟨_, rfl, _, rfl, ks, rs, -1, _, rfl, rfl, SqL.of K2.ob, hlat, _, rfl, _, rfl, D2, _, rfl, SqL.of hD2, fun x1 hx1 => ?_⟩
      have ec1 : cutV (vI b) none (some 16) = vI (b.take 16) := cut_to (hi := 16) b
      rw [ec1]
      have sx1 := Same.new (o := .lst (vI (b.take 16))) hx1
      have T2' := T2.same sx1
      refine ⟨a, p, l, x1, lastKey c, b.take 16, R2, d, n, sc, _, rfl, T2'.1, sx1 _ _ hl, nl, upd_same, T2.1.out hx1, hl32, by rw [List.length_take]; omega, by rw [List.length_append, List.length_singleton]; omega, fun H3 R3 D3 N3 hD3n nD3 hD3 => ?_⟩
      have T3 := T2'.trans N3
      have hD23 : H3 D2 = some (.lst (vI b)) := N3.2.1 _ _ (sx1 _ _ hD2) nD2
      refine ⟨_, rfl, _, rfl, D2, _, rfl, SqL.of hD23, fun x2 hx2 => ?_⟩
      have ec2 : cutV (vI b) (some 16) none = vI (b.drop 16) := cut_from (lo := 16) b (by omega)
      rw [ec2]
      have sx2 := Same.new (o := .lst (vI (b.drop 16))) hx2
      refine ⟨_, rfl, x2, D3, b.drop 16, G.mix (lastKey c) (b.take 16), rfl, SqL.of upd_same, SqL.of (sx2 _ _ hD3), by rw [List.length_drop]; omega, fun x3 H4 hx3 s4 hx3' => ?_⟩
      have s34 : Same H3 H4 := sx2.trans s4
      have hyl : (Ks190.xor (b.drop 16) (G.mix (lastKey c) (b.take 16))).length = 80 := by
        rw [xor_len, mix_len, List.length_drop]
        omega
      have hun : Ks190.under G (lastKey c) b = if (Ks190.xor (b.drop 16) (G.mix (lastKey c) (b.take 16))).take 16 = Ks190.zeros 16 then some ((Ks190.xor (b.drop 16) (G.mix (lastKey c) (b.take 16))).drop 16) else none := rfl
      generalize hy : Ks190.xor (b.drop 16) (G.mix (lastKey c) (b.take 16)) = y at hyl hun hx3'
      have T4 := T3.same s34
      refine ⟨_, rfl, _, rfl, x3, _, rfl, SqL.of hx3', fun x4 hx4 => ?_⟩
      have ec3 : cutV (vI y) none (some 16) = vI (y.take 16) := cut_to (hi := 16) y
      rw [ec3]
      have sx4 := Same.new (o := .lst (vI (y.take 16))) hx4
      have T5 := T4.same sx4
      refine ⟨x4, y.take 16, rfl, SqL.of upd_same, _, rfl, ?_⟩
      have et : (finding G c).map encN ++ [Ev.read place b, Ev.mix (lastKey c) (b.take 16) (G.mix (lastKey c) (b.take 16))].map encN = ((finding G c).map encN ++ [[1, place]]) ++ [5 :: b.take 16] := by
        rw [List.append_assoc]
        rfl
      have fin : ∀ (H' : Hp) (D : Addr) (r : Ans), Same (upd H4 x4 (.lst (vI (y.take 16)))) H' → upd H4 x4 (.lst (vI (y.take 16))) D = none → H' D = some (.lst (outV r)) →
          (match Ks190.under G (lastKey c) b with | some x => { ret := 0, out := x } | none => say (-2)) = r → Q (.ref D) H' := fun H' D r sm hD hH e => by
        rw [e] at k
        refine k H' R3 D n (Nat.le_succ _) ?_ (T5.1.out hD) hH
        show Told CP CA H R a p (after d (finding G c ++ [Ev.read place b, Ev.mix (lastKey c) (b.take 16) (G.mix (lastKey c) (b.take 16))])) n sc ((finding G c ++ [Ev.read place b, Ev.mix (lastKey c) (b.take 16) (G.mix (lastKey c) (b.take 16))]).map encN) H' R3
        rw [after_get, List.map_append, et]
        exact T5.same sm
      cases hany : (y.take 16).any (fun n => n != 0) with
      | true =>
        refine iteT ?_
        refine ⟨_, rfl, by show 1 ≤ sizeLine; decide, fun D hD => ?_⟩
        refine fin _ D (say (-2)) (Same.new hD) hD upd_same ?_
        rw [hun, if_neg (fun z => by
          rw [z, zeros_any] at hany
          cases hany)]
      | false =>
        refine iteF ?_
        refine ⟨by show 1 ≤ sizeLine; decide, fun x5 hx5 => ?_⟩
        have s5 := Same.new (o := .lst [V.int 0]) hx5
        refine ⟨_, rfl, _, rfl, x3, _, rfl, SqL.of (s5 _ _ (sx4 _ _ hx3')), fun x6 hx6 => ?_⟩
        have ec4 : cutV (vI y) (some 16) none = vI (y.drop 16) := cut_from (lo := 16) y (by omega)
        rw [ec4]
        have s6 := s5.trans (Same.new (o := .lst (vI (y.drop 16))) hx6)
        have n56 : x5 ≠ x6 := ne_of_none upd_same hx6
        refine ⟨x5, x6, _, _, rfl, rfl, by rw [upd_ne n56]; exact upd_same, upd_same, ?_, fun D hD => ?_⟩
        · rw [vI_len, List.length_drop, hyl, hsz]
          decide
        have hz : y.take 16 = Ks190.zeros 16 := by
          have z := any_zeros _ hany
          rw [List.length_take, hyl] at z
          exact z
        refine fin _ D { ret := 0, out := y.drop 16 } (s6.trans (Same.new hD)) (s6.free hD) ?_ ?_
        · rw [upd_same]
          show some (HO.lst ([V.int 0] ++ vI (y.drop 16))) = some (HO.lst (V.int 0 :: (Ks190Neutral.ints (y.drop 16)).map V.int))
          rw [← vI_ints]
          rfl
        · rw [hun, if_pos hz]
end
end Hd

/-! ## part B8 -/
namespace Hd
open PySem PySem.Spec PyProof.Rows L2
open Ks190 (Medium Bytes Ev Ans find places finding lastKey act after say)
theorem ite_yes {c : Bool} {A B : Prop} (hc : c = true) (h : A) : if c = true then A else B := by
  rw [if_pos hc]
  exact h
theorem ite_no {c : Bool} {A B : Prop} (hc : c = false) (h : B) : if c = true then A else B := by
  rw [hc, if_neg Bool.false_ne_true]
  exact h
theorem flat_encI (l : List Ev) : l.flatMap encI = Ks190Neutral.ints (l.map encN).flatten := by
  induction l with
  | nil => rfl
  | cons e r ih =>
    rw [List.flatMap_cons, ih, List.map_cons, List.flatten_cons, ints_app]
    rfl
theorem answer_val (x : List Ev × Ans) : outV x.2 ++ vI ((x.1.map encN).length :: (x.1.map encN).flatten) = (answerOf x).map V.int := by
  unfold answerOf outV
  rw [List.map_cons, List.map_cons, List.map_append, List.map_cons, flat_encI, ← vI_ints, ← vI_ints, List.length_map]
  rfl
theorem answer_len (x : List Ev × Ans) : (answerOf x).length = 1 + x.2.out.length + 1 + (x.1.map encN).flatten.length := by
  unfold answerOf
  rw [List.length_cons, List.length_append, List.length_cons, flat_encI, ints_len, ints_len]
  omega
section
variable {P : Program} {w : World} {K : PySem.W.Frag} {mg : Str → Option Value} {base : Heap} {CA CP CR : Addr}
/-- what a call leaves -/
def Post (CP CR : Addr) (H : Hp) (S : Reg) (r a p : Addr) (i2 : Nat) (d : Medium) (n : Nat) (ans : List Int) (Q : VK) : Prop :=
  ∀ (H' : Hp) (S' : Reg) (D : Addr) (n' : Nat), PagesAt CP H' p S' d n' → n' ≤ n + 1 → RdAt CR H' r a i2 → Keep (fun b => S b ∨ b = r) H H' → Grow S H S' → (∀ b o, H b = some o → ¬ S b → b ≠ D) →
    H' D = some (.lst (ans.map V.int)) → Q (.ref D) H'
/-- a new Asking stands -/
theorem da_mid {H H5 H6 : Hp} {S : Reg} {r a p s x dx t : Addr} {i5 : Nat} {d : Medium} {n : Nat} {sc : Bytes} (hp : PagesAt CP H p S d n) (nr : ¬ S r) (hr0 : ∃ o, H r = some o) (k05 : Keep (Only r) H H5) (hr5 : RdAt CR H5 r a i5)
    (hs : H5 s = some (.lst (vI sc))) (hs0 : H s = none) (nx : H5 x = none) (ndx : H5 dx = none) (ne : dx ≠ x) (ht : (upd (upd H5 dx (.own x)) x (.ins CA dx [])) t = none)
    (hx6 : H6 x = some (.ins CA dx (aF p s t))) (ht6 : H6 t = some (.lst [])) (k6 : Keep (Only x) (upd (upd H5 dx (.own x)) x (.ins CA dx [])) H6) :
    Same H5 H6 ∧ AskAt CP CA H6 (fun b => S b ∨ b = x ∨ b = t ∨ b = s) x p d n sc [] ∧ (∀ b, (S b ∨ b = x ∨ b = t ∨ b = s) → S b ∨ H b = none) ∧ ∀ b o, H5 b = some o → ¬ S b → b ≠ s → ¬ (S b ∨ b = x ∨ b = t ∨ b = s) := by
  have s56 : Same H5 H6 := Same.made nx ndx k6
  have hp5 := hp.keep k05 fun b sb z => nr (by rw [← (show b = r from z)]; exact sb)
  have tr : ∀ b, S b → ∃ o, H5 b = some o := hp5.all
  have out : ∀ {b}, H5 b = none → ¬ S b := fun {b} h z => by
    obtain ⟨o, e⟩ := tr b z
    rw [e] at h
    cases h
  have tx : t ≠ x := fun z => by
    rw [z, upd_same] at ht
    cases ht
  have t5 : H5 t = none := by
    rw [upd_ne tx] at ht
    by_cases c : t = dx
    · rw [c, upd_same] at ht
      cases ht
    · rw [upd_ne c] at ht
      exact ht
  have back : ∀ {b}, H5 b = none → H b = none := fun {b} h => by
    rcases k05.none_back h with z | z
    · obtain ⟨dr, e⟩ := hr5
      rw [show b = r from z, e] at h
      cases h
    · exact z
  have nSs : ¬ S s := fun z => by
    obtain ⟨o, e⟩ := hp.all s z
    rw [e] at hs0
    cases hs0
  have st : s ≠ t := fun z => by
    rw [← z, hs] at t5
    cases t5
  refine ⟨s56, ⟨S, s, t, dx, [], hx6, hp5.same s56, s56 _ _ hs, ht6, Items.nil, fun b z => .inl z, fun b z => ?_, .inr (.inl rfl), .inr (.inr (.inr rfl)), .inr (.inr (.inl rfl)), out nx, nSs, out t5, st⟩, fun b z => ?_, fun b o e nb bs z => ?_⟩
  · rcases z with z | z | z | z
    · obtain ⟨o, e⟩ := tr b z
      exact ⟨o, s56 _ _ e⟩
    · exact ⟨_, by rw [z]; exact hx6⟩
    · exact ⟨_, by rw [z]; exact ht6⟩
    · exact ⟨_, by rw [z]; exact s56 _ _ hs⟩
  · rcases z with z | z | z | z
    · exact .inl z
    · exact .inr (by rw [z]; exact back nx)
    · exact .inr (by rw [z]; exact back t5)
    · exact .inr (by rw [z]; exact hs0)
  · rcases z with z | z | z | z
    · exact nb z
    · rw [z, nx] at e
      cases e
    · rw [z, t5] at e
      cases e
    · exact bs z
theorem da_end {H H6 H7 H9 : Hp} {S R R7 : Reg} {r a p x : Addr} {i5 : Nat} {d' : Medium} {n' : Nat} {sc : Bytes} {tl : List (List Nat)} (nr : ¬ S r) (hr0 : ∃ o, H r = some o) (k06 : Keep (Only r) H H6) (hr6 : RdAt CR H6 r a i5)
    (hR : ∀ b, R b → S b ∨ H b = none) (N : Told CP CA H6 R x p d' n' sc tl H7 R7) (s79 : Same H7 H9) :
    ∃ S7, PagesAt CP H9 p S7 d' n' ∧ Keep (fun b => S b ∨ b = r) H H9 ∧ Grow S H S7 ∧ RdAt CR H9 r a i5 := by
  obtain ⟨S7, s7, t7, dx7, rs7, B⟩ := id N.1
  have nRr : ¬ R r := fun z => by
    rcases hR r z with q | q
    · exact nr q
    · obtain ⟨o, e⟩ := hr0
      rw [e] at q
      cases q
  obtain ⟨dr, er⟩ := hr6
  refine ⟨S7, B.pg.same s79, fun b o e nb => ?_, fun b z => ?_, ⟨dr, s79 _ _ (N.2.1 _ _ er nRr)⟩⟩
  · refine s79 _ _ (N.2.1 _ _ (k06 _ _ e fun z => nb (.inr z)) fun z => ?_)
    rcases hR b z with q | q
    · exact nb (.inl q)
    · rw [e] at q
      cases q
  · rcases N.2.2 b (B.sub b z) with q | q
    · exact hR b q
    · rcases k06.none_back q with y | y
      · rw [show b = r from y, er] at q
        cases q
      · exact .inr y
def spDA (K : PySem.W.Frag) (CP CR : Addr) : Sp := fun vs H Q _ => ∃ (q : Cl) (r a p : Addr) (i : Nat) (ns t : List Nat) (S : Reg) (d : Medium) (n : Nat), vs = [.int (q.num : Int), .ref r, .ref p] ∧ 1 ≤ q.num ∧ q.num ≤ 3 ∧ RdAt CR H r a i ∧ SqL K H a (vI ns) ∧
  ns.drop i = q.tail ++ t ∧ ns.length ≤ 30000 ∧ PagesAt CP H p S d n ∧ ¬ S r ∧ n < 100000 ∧ Good d q ∧ (Ks190Neutral.step d q.call).2.length ≤ 10000000 ∧
  Post CP CR H S r a p (i + q.tail.length) (Ks190Neutral.step d q.call).1 n (Ks190Neutral.step d q.call).2 Q
theorem scDA : FnScope ["call", "reader", "pages", "slot", "keys", "data", "asking", "first"] ["call", "reader", "pages"] (defScope sDAnswer) := ⟨rfl, rfl, rfl, by decide +kernel, rfl, by decide +kernel, by decide +kernel⟩
theorem get_of_drop {ns : List Nat} {i x : Nat} {t : List Nat} (h : ns.drop i = x :: t) : ns[i]? = some x := by
  have e := congrArg (fun l => l[0]?) h
  simp only [List.getElem?_drop] at e
  exact e
theorem drop_more {ns : List Nat} {i j : Nat} {u t : List Nat} (h : ns.drop i = u ++ t) (hj : j = i + u.length) : ns.drop j = t := by
  subst hj
  rw [← List.drop_drop, h, List.drop_left]

theorem da_tail {Dn : Ends} {σ : L2.St} {H H6 H7 : Hp} {S R R7 : Reg} {r a p x D7 : Addr} {i5 : Nat} {d : Medium} {n n' : Nat} {sc : Bytes} {X : List Ev × Ans} (h7 : σ[7]? = some (some (.ref D7))) (h6 : σ[6]? = some (some (.ref x)))
    (nr : ¬ S r) (hr0 : ∃ o, H r = some o) (k06 : Keep (Only r) H H6) (hr6 : RdAt CR H6 r a i5) (hR : ∀ b, R b → S b ∨ H b = none) (N : Told CP CA H6 R x p (after d X.1) n' sc (X.1.map encN) H7 R7) (hn' : n' ≤ n + 1) (nD : ¬ R7 D7)
    (hD7 : H7 D7 = some (.lst (outV X.2))) (hlen : (answerOf X).length ≤ 10000000) (k : Post CP CR H S r a p i5 (after d X.1) n (answerOf X) Dn.rt) :
    tRet (tOp rCat (tVar 7) (tMeth CA "account" (spAccount CP CA) [] E0 (tVar 6) tNil)) Dn σ H7 := by
  obtain ⟨S7, s7, t7, dx7, rs7, B⟩ := id N.1
  have hl := answer_len X
  have hsz := sizeLine_eq
  refine ⟨_, h7, _, h6, x, dx7, _, rfl, B.ob, aF_no _ _ _ (by decide +kernel) (by decide +kernel) (by decide +kernel), ?_⟩
  refine ⟨x, p, R7, after d X.1, n', sc, _, rfl, N.1, by omega, fun H8 A hA s78 hA8 => ?_⟩
  refine ⟨D7, A, _, _, rfl, rfl, s78 _ _ hD7, hA8, ?_, fun D hD => ?_⟩
  · rw [← List.length_append, answer_val, List.length_map]
    omega
  · rw [answer_val]
    have s79 := s78.trans (Same.new (o := .lst ((answerOf X).map V.int)) hD)
    obtain ⟨S9, p9, k9, g9, r9⟩ := da_end nr hr0 k06 hr6 hR N s79
    refine k _ S9 D n' p9 hn' r9 k9 g9 (fun b o e nb z => ?_) upd_same
    have nRb : ¬ R b := fun z => by
      rcases hR b z with q | q
      · exact nb q
      · rw [e] at q
        cases q
    by_cases c : b = r
    · obtain ⟨dr, er⟩ := hr6
      have nRr : ¬ R r := by rw [← c]; exact nRb
      have e8 := s78 _ _ (N.2.1 _ _ er nRr)
      rw [← z, c, e8] at hD
      cases hD
    · have e8 := s78 _ _ (N.2.1 _ _ (k06 _ _ e c) nRb)
      rw [← z, e8] at hD
      cases hD
def Cl.slot : Cl → Nat
  | .put i _ _ _ => i
  | .get i _ => i
  | .drop i _ _ => i
  | _ => 0
def Cl.krow : Cl → List Nat
  | .put _ k _ _ => k
  | .get _ k => k
  | .drop _ k _ => k
  | _ => []
def Cl.more : Cl → List Nat
  | .put _ _ d s => d.length :: (d ++ (s.length :: s))
  | .drop _ _ s => s.length :: s
  | _ => []
theorem Cl.tail_is (q : Cl) (h1 : 1 ≤ q.num) (h3 : q.num ≤ 3) : q.tail = q.slot :: q.krow.length :: (q.krow ++ q.more) := by
  cases q with
  | fresh s => exact absurd h1 (Nat.not_succ_le_zero 0)
  | page pg => exact absurd h3 (by show ¬ 4 ≤ 3; omega)
  | put => rfl
  | get i k =>
    show i :: k.length :: k = i :: k.length :: (k ++ [])
    rw [List.append_nil]
  | drop => rfl
theorem ok_DA {f : Addr} {fd : FuncData} (F : Fun K "drawer_answer" "drawer_answer" sDAnswer f fd) (T : Txt K mg CA CP CR) (MN : Mth P w K mg base CR "number" 1 ["self"] (spNumber K CR)) (MR : Mth P w K mg base CR "row" 2 ["self"] (spRow K CR))
    (DK : Def P w K mg base "keys_of" 1 ["row"] (spKeysOf K)) (IA : Ini P w K mg base CA 1 ["self", "pages", "script"] (spAInit CA)) (DP : Def P w K mg base "put_data" 5 ["asking", "slot", "keys", "data"] (spPut CP CA)) (DG : Def P w K mg base "get_data" 5 ["asking", "slot", "keys"] (spGet CP CA))
    (DD : Def P w K mg base "drop_data" 5 ["asking", "slot", "keys"] (spDrop CP CA)) (MA : Mth P w K mg base CA "account" 1 ["self"] (spAccount CP CA)) : FnOk P w K mg base CX0 6 f fd ["call", "reader", "pages"] (spDA K CP CR) := by
  obtain ⟨fN, fdN, GN, mN, bN⟩ := MN
  obtain ⟨fR, fdR, GR, mR, bR⟩ := MR
  obtain ⟨fK, fdK, GK, mK, kK, bK⟩ := DK
  obtain ⟨fI, fdI, GI, mI, bI⟩ := IA
  obtain ⟨fP, fdP, GP, mP, kP, bP⟩ := DP
  obtain ⟨fG, fdG, GG, mG, kG, bG⟩ := DG
  obtain ⟨fD, fdD, GD, mD, kD, bD⟩ := DD
  obtain ⟨fA, fdA, GA, mA, bA⟩ := MA
  refine F.ok scDA (fun vs H Q E h => ?_) (fun cdv A outer s H vs Q E hr h => ?_)
  · obtain ⟨q, r, a, p, i, ns, t, S, d, n, rfl, _⟩ := h
    rfl
  · obtain ⟨q, r, a, p, i, ns, t, S, d, n, rfl, hq1, hq3, hr0, hS, hd, hn30, hp, nr, hn, hg, hlen, k⟩ := h
    obtain ⟨t1, g1⟩ := T.put
    obtain ⟨t2, g2⟩ := T.get
    refine ⟨_, pss_cons (ps_set (i := 3) scDA.nd rfl (Or.inl rfl) (pe_meth0 (pv 1) T.cR mN GN (hr.mono (by decide)) bN .nil pass0))
      (pss_cons (ps_set (i := 4) scDA.nd rfl (Or.inl rfl) (pe_call GK (hr.mono (by decide)) (by rfl) mK kK bK .nil pass0 (pa_cons (pe_meth0 (pv 1) T.cR mR GR (hr.mono (by decide)) bR .nil pass0) pa_nil)))
      (pss_cons (ps_if (pt_cmpR op_eq (pv 0) (pe_glob (v := .int 1) (by rfl) g1 ⟨_, rfl⟩) (nomark _))
        (pss_cons (ps_set (i := 5) scDA.nd rfl (Or.inl rfl) (pe_meth0 (pv 1) T.cR mR GR (hr.mono (by decide)) bR .nil pass0))
        (pss_cons (ps_set (i := 6) scDA.nd rfl (Or.inl rfl) (pe_make mI GI (hr.mono (by decide)) (by rfl) T.gA bI .nil pass0 (pa_cons (pv 2) (pa_cons (pe_meth0 (pv 1) T.cR mR GR (hr.mono (by decide)) bR .nil pass0) pa_nil))))
        (pss_one (ps_set (i := 7) scDA.nd rfl (Or.inl rfl) (pe_call GP (hr.mono (by decide)) (by rfl) mP kP bP .nil pass0 (pa_cons (pv 6) (pa_cons (pv 3) (pa_cons (pv 4) (pa_cons (pv 5) pa_nil)))))))))
        (pss_one (ps_if (pt_cmpR op_eq (pv 0) (pe_glob (v := .int 2) (by rfl) g2 ⟨_, rfl⟩) (nomark _))
          (pss_cons (ps_set (i := 6) scDA.nd rfl (Or.inl rfl) (pe_make mI GI (hr.mono (by decide)) (by rfl) T.gA bI .nil pass0 (pa_cons (pv 2) (pa_cons (pe_lst pa_nil) pa_nil))))
          (pss_one (ps_set (i := 7) scDA.nd rfl (Or.inl rfl) (pe_call GG (hr.mono (by decide)) (by rfl) mG kG bG .nil pass0 (pa_cons (pv 6) (pa_cons (pv 3) (pa_cons (pv 4) pa_nil)))))))
          (pss_cons (ps_set (i := 6) scDA.nd rfl (Or.inl rfl) (pe_make mI GI (hr.mono (by decide)) (by rfl) T.gA bI .nil pass0 (pa_cons (pv 2) (pa_cons (pe_meth0 (pv 1) T.cR mR GR (hr.mono (by decide)) bR .nil pass0) pa_nil))))
          (pss_one (ps_set (i := 7) scDA.nd rfl (Or.inl rfl) (pe_call GD (hr.mono (by decide)) (by rfl) mD kD bD .nil pass0 (pa_cons (pv 6) (pa_cons (pv 3) (pa_cons (pv 4) pa_nil))))))))))
      (pss_one (ps_ret (pe_op op_cat (pv 7) (pe_meth0 (pv 6) T.cA mA GA (hr.mono (by decide)) bA .nil pass0)))))), ?_⟩
    obtain ⟨dr, er⟩ := id hr0
    have hro : ∃ o, H r = some o := ⟨_, er⟩
    have ht0 := q.tail_is hq1 hq3
    rw [ht0] at hd
    have hx := get_of_drop hd
    refine ⟨_, rfl, r, dr, _, rfl, er, rF_no _ _ (by decide +kernel) (by decide +kernel), r, a, i, q.slot, ns, rfl, hr0, hS, hx, fun H1 hr1 k1 => ?_⟩
    obtain ⟨dr1, er1⟩ := id hr1
    have hS1 := SqL.only k1 er hS
    have hd1 : ns.drop (i + 1) = q.krow.length :: (q.krow ++ (q.more ++ t)) := drop_more (u := [q.slot]) (by rw [hd]; simp) rfl
    have hkl : q.krow.length ≤ 100000 := by
      have e := congrArg List.length hd1
      rw [List.length_drop, List.length_cons, List.length_append] at e
      omega
    refine ⟨_, rfl, r, dr1, _, rfl, er1, rF_no _ _ (by decide +kernel) (by decide +kernel), r, a, i + 1, ns, q.krow, q.more ++ t, rfl, hr1, hS1, hd1, fun H2 D2 hr2 k2 hD2 hD2' => ?_⟩
    obtain ⟨dr2, er2⟩ := id hr2
    have hS2 := SqL.only k2 er1 hS1
    have k02 : Keep (Only r) H H2 := fun b o e nb => k2 b o (k1 b o e nb) nb
    refine ⟨D2, q.krow, rfl, SqL.of hD2', hkl, fun kd H3 rs hkd s23 hkd' hit => ?_⟩
    have hS3 := s23.seq hS2
    have er3 := s23 _ _ er2
    have hr3 : RdAt CR H3 r a (i + 1 + 1 + q.krow.length) := ⟨dr2, er3⟩
    have k03 : Keep (Only r) H H3 := fun b o e nb => s23 b o (k02 b o e nb)
    have back2 : ∀ {b : Addr}, H2 b = none → H b = none := fun {b} h => by
      rcases k02.none_back h with z | z
      · rw [show b = r from z, er2] at h
        cases h
      · exact z
    have nS : ∀ {b : Addr}, H b = none → ¬ S b := fun {b} h z => by
      obtain ⟨o, e⟩ := hp.all b z
      rw [e] at h
      cases h
    have hd3 : ns.drop (i + 1 + 1 + q.krow.length) = q.more ++ t := drop_more (u := q.krow.length :: q.krow) (by rw [hd1]; simp) (by rw [List.length_cons]; omega)
    cases q with
    | fresh s => exact absurd hq1 (Nat.not_succ_le_zero 0)
    | page pg => exact absurd hq3 (by show ¬ 4 ≤ 3; omega)
    | put slot krow data sc =>
      rw [step_put] at k hlen
      obtain ⟨hg1, hg2⟩ := hg
      have hd3 : ns.drop (i + 1 + 1 + krow.length) = data.length :: (data ++ (sc.length :: (sc ++ t))) := by
        refine hd3.trans ?_
        show (data.length :: (data ++ (sc.length :: sc))) ++ t = _
        simp
      refine ⟨_, rfl, rfl, _, rfl, ite_yes (decide_eq_true rfl) ?_⟩
      refine ⟨_, rfl, r, dr2, _, rfl, er3, rF_no _ _ (by decide +kernel) (by decide +kernel), r, a, i + 1 + 1 + krow.length, ns, data, _, rfl, hr3, hS3, hd3, fun H4 D4 hr4 k4 hD4 hD4' => ?_⟩
      obtain ⟨dr4, er4⟩ := id hr4
      have hS4 := SqL.only k4 er3 hS3
      have hd4 : ns.drop (i + 1 + 1 + krow.length + 1 + data.length) = sc.length :: (sc ++ t) := drop_more (u := data.length :: data) (by rw [hd3]; simp) (by rw [List.length_cons]; omega)
      have k04 : Keep (Only r) H H4 := fun b o e nb => k4 b o (k03 b o e nb) nb
      refine ⟨_, rfl, _, rfl, r, dr4, _, rfl, er4, rF_no _ _ (by decide +kernel) (by decide +kernel), r, a, i + 1 + 1 + krow.length + 1 + data.length, ns, sc, t, rfl, hr4, hS4, hd4, fun H5 D5 hr5 k5 hD5 hD5' => ?_⟩
      obtain ⟨dr5, er5⟩ := id hr5
      have k05 : Keep (Only r) H H5 := fun b o e nb => k5 b o (k04 b o e nb) nb
      have k45 : ∀ {b o}, H4 b = some o → b ≠ r → H5 b = some o := fun {b o} e nb => k5 b o e nb
      have hD5H : H D5 = none := by
        rcases k04.none_back hD5 with z | z
        · rw [show D5 = r from z, er4] at hD5
          cases hD5
        · exact z
      have hD4H : H D4 = none := by
        rcases k03.none_back hD4 with z | z
        · rw [show D4 = r from z, er3] at hD4
          cases hD4
        · exact z
      intro x dx nx ndx ne
      refine ⟨x, dx, p, D5, rfl, upd_same, fun H6 tt htt hx6 ht6 k6 => ⟨rfl, ?_⟩⟩
      obtain ⟨s56, hA, hR, hout⟩ := da_mid hp nr hro k05 hr5 hD5' hD5H nx ndx ne htt hx6 ht6 k6
      have ner : ∀ {b : Addr}, H b = none → b ≠ r := fun {b} h z => by
        rw [z, er] at h
        cases h
      have s4k : ∀ {b o}, H3 b = some o → b ≠ r → H5 b = some o := fun {b o} e nb => k45 (k4 b o e nb) nb
      have ne5 : ∀ {b o}, H4 b = some o → b ≠ D5 := fun {b o} e z => by
        rw [z, hD5] at e
        cases e
      have hK : KeysAt H6 (fun b => S b ∨ b = x ∨ b = tt ∨ b = D5) kd rs (keysN krow) := by
        refine ⟨s56 _ _ (s4k hkd' (ner (back2 hkd))), hout kd _ (s4k hkd' (ner (back2 hkd))) (nS (back2 hkd)) (ne5 (k4 _ _ hkd' (ner (back2 hkd)))), ?_, keysN_32 krow⟩
        refine hit.mono fun l o z e => ?_
        have nl := ner (back2 z)
        exact ⟨hout l _ (s4k e nl) (nS (back2 z)) (ne5 (k4 _ _ e nl)), s56 _ _ (s4k e nl)⟩
      have hD45 := k45 hD4' (ner hD4H)
      refine ⟨_, rfl, _, rfl, _, rfl, _, rfl, x, p, kd, D4, slot, rs, keysN krow, data, _, d, n, sc, rfl, hA, hK, s56 _ _ hD45, hout D4 _ hD45 (nS hD4H) (ne5 hD4'), hg1, hn, hg2, fun H7 R7 D7 n7 hn7 N nD hD7 => ?_⟩
      have hix : i + 1 + 1 + krow.length + 1 + data.length + 1 + sc.length = i + (Cl.put slot krow data sc).tail.length := by
        show _ = i + (slot :: krow.length :: (krow ++ (data.length :: (data ++ (sc.length :: sc))))).length
        simp only [List.length_cons, List.length_append]
        omega
      have hr6 : RdAt CR H6 r a (i + (Cl.put slot krow data sc).tail.length) := by
        rw [← hix]
        exact ⟨dr5, s56 _ _ er5⟩
      exact da_tail (X := putR d slot krow data sc) rfl rfl nr hro (fun b o e nb => s56 _ _ (k05 b o e nb)) hr6 hR N hn7 nD hD7 hlen k
    | get slot krow =>
      rw [step_get] at k hlen
      refine ⟨_, rfl, rfl, _, rfl, ite_no (decide_eq_false (fun z => by injection z with z; exact absurd z (show ¬ (2 : Int) = 1 by decide))) ?_⟩
      refine ⟨_, rfl, rfl, _, rfl, ite_yes (decide_eq_true rfl) ?_⟩
      refine ⟨_, rfl, by show 0 ≤ sizeLine; decide, fun D5 hD5 => ?_⟩
      have s35 := Same.new (o := .lst []) hD5
      have k05 : Keep (Only r) H (upd H3 D5 (.lst [])) := fun b o e nb => s35 b o (k03 b o e nb)
      have er5 := s35 _ _ er3
      have hr5 : RdAt CR (upd H3 D5 (.lst [])) r a (i + 1 + 1 + krow.length) := ⟨dr2, er5⟩
      have hD5H : H D5 = none := by
        rcases k03.none_back hD5 with z | z
        · rw [show D5 = r from z, er3] at hD5
          cases hD5
        · exact z
      intro x dx nx ndx ne
      refine ⟨x, dx, p, D5, rfl, upd_same, fun H6 tt htt hx6 ht6 k6 => ⟨rfl, ?_⟩⟩
      obtain ⟨s56, hA, hR, hout⟩ := da_mid (sc := []) hp nr hro k05 hr5 upd_same hD5H nx ndx ne htt hx6 ht6 k6
      have ne5 : ∀ {b o}, H3 b = some o → b ≠ D5 := fun {b o} e z => by
        rw [z, hD5] at e
        cases e
      have hK : KeysAt H6 (fun b => S b ∨ b = x ∨ b = tt ∨ b = D5) kd rs (keysN krow) := by
        refine ⟨s56 _ _ (s35 _ _ hkd'), hout kd _ (s35 _ _ hkd') (nS (back2 hkd)) (ne5 hkd'), ?_, keysN_32 krow⟩
        refine hit.mono fun l o z e => ?_
        exact ⟨hout l _ (s35 _ _ e) (nS (back2 z)) (ne5 e), s56 _ _ (s35 _ _ e)⟩
      refine ⟨_, rfl, _, rfl, _, rfl, x, p, kd, slot, rs, keysN krow, _, d, n, [], rfl, hA, hK, fun H7 R7 D7 n7 hn7 N nD hD7 => ?_⟩
      have hix : i + 1 + 1 + krow.length = i + (Cl.get slot krow).tail.length := by
        show _ = i + (slot :: krow.length :: krow).length
        simp only [List.length_cons]
        omega
      have hr6 : RdAt CR H6 r a (i + (Cl.get slot krow).tail.length) := by
        rw [← hix]
        exact ⟨dr2, s56 _ _ er5⟩
      exact da_tail (X := getR d slot krow []) rfl rfl nr hro (fun b o e nb => s56 _ _ (k05 b o e nb)) hr6 hR N hn7 nD hD7 hlen k
    | drop slot krow sc =>
      rw [step_drop] at k hlen
      have hd3 : ns.drop (i + 1 + 1 + krow.length) = sc.length :: (sc ++ t) := by
        refine hd3.trans ?_
        show (sc.length :: sc) ++ t = _
        simp
      refine ⟨_, rfl, rfl, _, rfl, ite_no (decide_eq_false (fun z => by injection z with z; exact absurd z (show ¬ (3 : Int) = 1 by decide))) ?_⟩
      refine ⟨_, rfl, rfl, _, rfl, ite_no (decide_eq_false (fun z => by injection z with z; exact absurd z (show ¬ (3 : Int) = 2 by decide))) ?_⟩
      refine ⟨_, rfl, _, rfl, r, dr2, _, rfl, er3, rF_no _ _ (by decide +kernel) (by decide +kernel), r, a, i + 1 + 1 + krow.length, ns, sc, t, rfl, hr3, hS3, hd3, fun H5 D5 hr5 k5 hD5 hD5' => ?_⟩
      obtain ⟨dr5, er5⟩ := id hr5
      have k05 : Keep (Only r) H H5 := fun b o e nb => k5 b o (k03 b o e nb) nb
      have hD5H : H D5 = none := by
        rcases k03.none_back hD5 with z | z
        · rw [show D5 = r from z, er3] at hD5
          cases hD5
        · exact z
      intro x dx nx ndx ne
      refine ⟨x, dx, p, D5, rfl, upd_same, fun H6 tt htt hx6 ht6 k6 => ⟨rfl, ?_⟩⟩
      obtain ⟨s56, hA, hR, hout⟩ := da_mid hp nr hro k05 hr5 hD5' hD5H nx ndx ne htt hx6 ht6 k6
      have ner : ∀ {b : Addr}, H b = none → b ≠ r := fun {b} h z => by
        rw [z, er] at h
        cases h
      have s4k : ∀ {b o}, H3 b = some o → b ≠ r → H5 b = some o := fun {b o} e nb => k5 b o e nb
      have ne5 : ∀ {b o}, H3 b = some o → b ≠ D5 := fun {b o} e z => by
        rw [z, hD5] at e
        cases e
      have hK : KeysAt H6 (fun b => S b ∨ b = x ∨ b = tt ∨ b = D5) kd rs (keysN krow) := by
        refine ⟨s56 _ _ (s4k hkd' (ner (back2 hkd))), hout kd _ (s4k hkd' (ner (back2 hkd))) (nS (back2 hkd)) (ne5 hkd'), ?_, keysN_32 krow⟩
        refine hit.mono fun l o z e => ?_
        have nl := ner (back2 z)
        exact ⟨hout l _ (s4k e nl) (nS (back2 z)) (ne5 e), s56 _ _ (s4k e nl)⟩
      refine ⟨_, rfl, _, rfl, _, rfl, x, p, kd, slot, rs, keysN krow, _, d, n, sc, rfl, hA, hK, hn, hg, fun H7 R7 D7 n7 hn7 N nD hD7 => ?_⟩
      have hix : i + 1 + 1 + krow.length + 1 + sc.length = i + (Cl.drop slot krow sc).tail.length := by
        show _ = i + (slot :: krow.length :: (krow ++ (sc.length :: sc))).length
        simp only [List.length_cons, List.length_append]
        omega
      have hr6 : RdAt CR H6 r a (i + (Cl.drop slot krow sc).tail.length) := by
        rw [← hix]
        exact ⟨dr5, s56 _ _ er5⟩
      exact da_tail (X := dropR d slot krow sc) rfl rfl nr hro (fun b o e nb => s56 _ _ (k05 b o e nb)) hr6 hR N hn7 nD hD7 hlen k
end
end Hd

/-! ## part B9 -/
namespace Hd
open PySem PySem.Spec PyProof.Rows L2
open Ks190 (Medium Bytes Ev Ans find places finding lastKey act after say)
section
variable {P : Program} {w : World} {K : PySem.W.Frag} {mg : Str → Option Value} {base : Heap} {CA CP CR : Addr}
def spNext (K : PySem.W.Frag) (CP CR : Addr) : Sp := fun vs H Q _ => ∃ (q : Cl) (r a p : Addr) (i : Nat) (ns t : List Nat) (S : Reg) (d : Medium) (n : Nat), vs = [.ref r, .ref p] ∧ RdAt CR H r a i ∧ SqL K H a (vI ns) ∧
  ns.drop i = q.flat ++ t ∧ ns.length ≤ 30000 ∧ PagesAt CP H p S d n ∧ ¬ S r ∧ n < 100000 ∧ Good d q ∧ (Ks190Neutral.step d q.call).2.length ≤ 10000000 ∧
  Post CP CR H S r a p (i + q.flat.length) (Ks190Neutral.step d q.call).1 n (Ks190Neutral.step d q.call).2 Q
theorem scNext : FnScope ["reader", "pages", "call"] ["reader", "pages"] (defScope sNext) := ⟨rfl, rfl, rfl, by decide +kernel, rfl, by decide +kernel, by decide +kernel⟩
theorem dec_ne {x y : Int} (h : x ≠ y) : decide (V.int x = V.int y) = false := decide_eq_false fun z => by
  injection z with z
  exact h z
theorem ok_next {f : Addr} {fd : FuncData} (F : Fun K "next_answer" "next_answer" sNext f fd) (T : Txt K mg CA CP CR) (MN : Mth P w K mg base CR "number" 1 ["self"] (spNumber K CR)) (MF : Mth P w K mg base CP "fill" 1 ["self", "seed"] (spFill CP))
    (MS : Mth P w K mg base CP "show" 1 ["self", "place"] (spShow CP)) (DA : Def P w K mg base "drawer_answer" 6 ["call", "reader", "pages"] (spDA K CP CR)) : FnOk P w K mg base CX0 7 f fd ["reader", "pages"] (spNext K CP CR) := by
  obtain ⟨fN, fdN, GN, mN, bN⟩ := MN
  obtain ⟨fF, fdF, GF, mF, bF⟩ := MF
  obtain ⟨fS, fdS, GS, mS, bS⟩ := MS
  obtain ⟨fD, fdD, GD, mD, kD, bD⟩ := DA
  refine F.ok scNext (fun vs H Q E h => ?_) (fun cdv A outer s H vs Q E hr h => ?_)
  · obtain ⟨q, r, a, p, i, ns, t, S, d, n, rfl, _⟩ := h
    rfl
  · obtain ⟨q, r, a, p, i, ns, t, S, d, n, rfl, hr0, hS, hd, hn30, hp, nr, hn, hg, hlen, k⟩ := h
    obtain ⟨t0, g0⟩ := T.fresh
    obtain ⟨t1, g1⟩ := T.put
    obtain ⟨t2, g2⟩ := T.get
    obtain ⟨t3, g3⟩ := T.drop
    obtain ⟨t4, g4⟩ := T.pageCount
    refine ⟨_, pss_cons (ps_set (i := 2) scNext.nd rfl (Or.inl rfl) (pe_meth0 (pv 0) T.cR mN GN (hr.mono (by decide)) bN .nil pass0))
      (pss_cons (ps_if (pt_cmpR op_eq (pv 2) (pe_glob (v := .int 0) (by rfl) g0 ⟨_, rfl⟩) (nomark _))
        (pss_cons (ps_expr (pe_meth (pv 1) T.cP mF GF (hr.mono (by decide)) bF .nil pass0 (pa_cons (pe_meth0 (pv 0) T.cR mN GN (hr.mono (by decide)) bN .nil pass0) pa_nil)))
        (pss_one (ps_ret (pe_lst (pa_cons pe_int pa_nil))))) pss_nil)
      (pss_cons (ps_if (PW.pt (pw_or (pt_cmpR op_eq (pv 2) (pe_glob (v := .int 1) (by rfl) g1 ⟨_, rfl⟩) (nomark _)) (pw_or (pt_cmpR op_eq (pv 2) (pe_glob (v := .int 2) (by rfl) g2 ⟨_, rfl⟩) (nomark _)) (pw_or1 (pt_cmpR op_eq (pv 2) (pe_glob (v := .int 3) (by rfl) g3 ⟨_, rfl⟩) (nomark _))))))
        (pss_one (ps_ret (pe_call GD (hr.mono (by decide)) (by rfl) mD kD bD .nil pass0 (pa_cons (pv 2) (pa_cons (pv 0) (pa_cons (pv 1) pa_nil)))))) pss_nil)
      (pss_one (ps_ret (pe_op op_cat (pe_lst (pa_cons pe_int pa_nil)) (pe_meth (pv 1) T.cP mS GS (hr.mono (by decide)) bS .nil pass0 (pa_cons (pe_op op_mod (pe_meth0 (pv 0) T.cR mN GN (hr.mono (by decide)) bN .nil pass0) (pe_glob (v := .int 1024) (by rfl) g4 ⟨_, rfl⟩)) pa_nil))))))), ?_⟩
    obtain ⟨dr, er⟩ := id hr0
    have hsz := sizeLine_eq
    have hx : ns[i]? = some q.num := get_of_drop (t := q.tail ++ t) hd
    refine ⟨_, rfl, r, dr, _, rfl, er, rF_no _ _ (by decide +kernel) (by decide +kernel), r, a, i, q.num, ns, rfl, hr0, hS, hx, fun H1 hr1 k1 => ?_⟩
    obtain ⟨dr1, er1⟩ := id hr1
    have hS1 := SqL.only k1 er hS
    have hd1 : ns.drop (i + 1) = q.tail ++ t := drop_more (u := [q.num]) hd rfl
    have notr : ∀ b, S b → ¬ Only r b := fun b sb z => nr (by rw [← (show b = r from z)]; exact sb)
    have hp1 := hp.keep k1 notr
    have hix : i + 1 + q.tail.length = i + q.flat.length := by
      show _ = i + (q.num :: q.tail).length
      rw [List.length_cons]
      omega
    cases q with
    | fresh seed =>
      obtain ⟨e1, e2⟩ := step_fresh d seed
      refine ⟨_, rfl, rfl, _, rfl, ite_yes (decide_eq_true rfl) ?_⟩
      obtain ⟨dx, dd, kvs, fv, B⟩ := id hp1
      have hx1 : ns[i + 1]? = some seed := get_of_drop (t := t) hd1
      refine ⟨_, rfl, p, dx, _, rfl, B.ob, pF_no _ _ (by decide +kernel) (by decide +kernel), _, rfl, r, dr1, _, rfl, er1, rF_no _ _ (by decide +kernel) (by decide +kernel), r, a, i + 1, seed, ns, rfl, hr1, hS1, hx1, fun H2 hr2 k2 => ?_⟩
      have hp2 := hp1.keep k2 notr
      obtain ⟨dr2, er2⟩ := id hr2
      refine ⟨p, seed, S, d, n, rfl, hp2, fun H3 S3 P3 K3 G3 => ?_⟩
      refine ⟨by show 1 ≤ sizeLine; decide, fun D hD => ?_⟩
      have s34 := Same.new (o := .lst [V.int 0]) hD
      have k03 : ∀ b o, H b = some o → ¬ (S b ∨ b = r) → H3 b = some o := fun b o e nb => K3 b o (k2 b o (k1 b o e fun z => nb (.inr z)) fun z => nb (.inr z)) fun z => nb (.inl z)
      refine k _ S3 D 0 ((P3.same s34).congr e1) (Nat.zero_le _) ⟨dr2, s34 _ _ (K3 _ _ er2 nr)⟩ (fun b o e nb => s34 _ _ (k03 b o e nb)) (fun b z => ?_) (fun b o e nb z => ?_) ?_
      · rcases G3 b z with y | y
        · exact .inl y
        · rcases k2.none_back y with y | y
          · rw [show b = r from y] at z
            exact absurd z (G3.out er2 nr)
          · rcases k1.none_back y with y | y
            · rw [show b = r from y] at z
              exact absurd z (G3.out er2 nr)
            · exact .inr y
      · by_cases c : b = r
        · rw [← z, c, K3 _ _ er2 nr] at hD
          cases hD
        · rw [← z, k03 b o e fun y => y.elim nb c] at hD
          cases hD
      · rw [e2, upd_same]
        rfl
    | page pg =>
      rw [step_page] at k hlen
      refine ⟨_, rfl, rfl, _, rfl, ite_no (dec_ne (show (4 : Int) ≠ 0 by decide)) ?_⟩
      refine ⟨_, rfl, rfl, _, rfl, ite_no (dec_ne (show (4 : Int) ≠ 1 by decide)) ?_⟩
      refine ⟨_, rfl, rfl, _, rfl, ite_no (dec_ne (show (4 : Int) ≠ 2 by decide)) ?_⟩
      refine ⟨_, rfl, rfl, _, rfl, ite_no (dec_ne (show (4 : Int) ≠ 3 by decide)) ?_⟩
      refine ⟨by show 1 ≤ sizeLine; decide, fun x hx => ?_⟩
      have s1x := Same.new (o := .lst [V.int 0]) hx
      have hp2 := hp1.same s1x
      obtain ⟨dx, dd, kvs, fv, B⟩ := id hp2
      have hx1 : ns[i + 1]? = some pg := get_of_drop (t := t) hd1
      refine ⟨_, rfl, p, dx, _, rfl, B.ob, pF_no _ _ (by decide +kernel) (by decide +kernel), _, rfl, r, dr1, _, rfl, s1x _ _ er1, rF_no _ _ (by decide +kernel) (by decide +kernel), r, a, i + 1, pg, ns, rfl, ⟨dr1, s1x _ _ er1⟩, s1x.seq hS1, hx1, fun H2 hr2 k2 => ?_⟩
      have hp3 := hp2.keep k2 notr
      obtain ⟨dr2, er2⟩ := id hr2
      have xr : x ≠ r := fun z => by
        rw [z, er1] at hx
        cases hx
      have hx2 : H2 x = some (.lst [V.int 0]) := k2 _ _ upd_same xr
      refine ⟨_, _, rfl, rfl, (by show (0 : Int) < 1024; decide), ?_⟩
      refine ⟨p, pg % 1024, S, d, n, rfl, hp3, Nat.mod_lt _ (by decide), fun y H3 hy s23 hy' => ?_⟩
      refine ⟨x, y, _, _, rfl, rfl, s23 _ _ hx2, hy', ?_, fun D hD => ?_⟩
      · rw [vI_len, hp.len _ (Nat.mod_lt _ (by decide)), hsz]
        decide
      have s34 := Same.new (o := .lst ([V.int 0] ++ vI (d (pg % 1024)))) hD
      have k03 : ∀ b o, H b = some o → b ≠ r → H3 b = some o := fun b o e nb => s23 _ _ (k2 b o (s1x _ _ (k1 b o e nb)) nb)
      refine k _ S D n ((hp3.same s23).same s34) (Nat.le_succ _) ⟨dr2, s34 _ _ (s23 _ _ er2)⟩ (fun b o e nb => s34 _ _ (k03 b o e fun z => nb (.inr z))) (Grow.refl S H) (fun b o e nb z => ?_) ?_
      · by_cases c : b = r
        · rw [← z, c, s23 _ _ er2] at hD
          cases hD
        · rw [← z, k03 b o e c] at hD
          cases hD
      · rw [upd_same, vI_ints]
        rfl
    | put slot krow data sc =>
      refine ⟨_, rfl, rfl, _, rfl, ite_no (dec_ne (show (1 : Int) ≠ 0 by decide)) ?_⟩
      refine ⟨_, rfl, rfl, _, rfl, ite_yes (decide_eq_true rfl) ?_⟩
      refine ⟨_, rfl, _, rfl, _, rfl, Cl.put slot krow data sc, r, a, p, i + 1, ns, t, S, d, n, rfl, by show 1 ≤ 1; omega, by show 1 ≤ 3; omega, hr1, hS1, hd1, hn30, hp1, nr, hn, hg, hlen, fun H' S' D n' z1 z2 z3 z4 z5 z6 z7 => ?_⟩
      rw [hix] at z3
      exact k H' S' D n' z1 z2 z3 (fun b o e nb => z4 b o (k1 b o e fun y => nb (.inr y)) nb) (fun b z => by
        rcases z5 b z with y | y
        · exact .inl y
        · rcases k1.none_back y with y | y
          · rw [show b = r from y] at z
            exact absurd z (z5.out er1 nr)
          · exact .inr y) (fun b o e nb => by
        by_cases c : b = r
        · rw [c]
          exact z6 r _ er1 nr
        · exact z6 b o (k1 b o e c) nb) z7
    | get slot krow =>
      refine ⟨_, rfl, rfl, _, rfl, ite_no (dec_ne (show (2 : Int) ≠ 0 by decide)) ?_⟩
      refine ⟨_, rfl, rfl, _, rfl, ite_no (dec_ne (show (2 : Int) ≠ 1 by decide)) ?_⟩
      refine ⟨_, rfl, rfl, _, rfl, ite_yes (decide_eq_true rfl) ?_⟩
      refine ⟨_, rfl, _, rfl, _, rfl, Cl.get slot krow, r, a, p, i + 1, ns, t, S, d, n, rfl, by show 1 ≤ 2; omega, by show 2 ≤ 3; omega, hr1, hS1, hd1, hn30, hp1, nr, hn, hg, hlen, fun H' S' D n' z1 z2 z3 z4 z5 z6 z7 => ?_⟩
      rw [hix] at z3
      exact k H' S' D n' z1 z2 z3 (fun b o e nb => z4 b o (k1 b o e fun y => nb (.inr y)) nb) (fun b z => by
        rcases z5 b z with y | y
        · exact .inl y
        · rcases k1.none_back y with y | y
          · rw [show b = r from y] at z
            exact absurd z (z5.out er1 nr)
          · exact .inr y) (fun b o e nb => by
        by_cases c : b = r
        · rw [c]
          exact z6 r _ er1 nr
        · exact z6 b o (k1 b o e c) nb) z7
    | drop slot krow sc =>
      refine ⟨_, rfl, rfl, _, rfl, ite_no (dec_ne (show (3 : Int) ≠ 0 by decide)) ?_⟩
      refine ⟨_, rfl, rfl, _, rfl, ite_no (dec_ne (show (3 : Int) ≠ 1 by decide)) ?_⟩
      refine ⟨_, rfl, rfl, _, rfl, ite_no (dec_ne (show (3 : Int) ≠ 2 by decide)) ?_⟩
      refine ⟨_, rfl, rfl, _, rfl, ite_yes (decide_eq_true rfl) ?_⟩
      refine ⟨_, rfl, _, rfl, _, rfl, Cl.drop slot krow sc, r, a, p, i + 1, ns, t, S, d, n, rfl, by show 1 ≤ 3; omega, by show 3 ≤ 3; omega, hr1, hS1, hd1, hn30, hp1, nr, hn, hg, hlen, fun H' S' D n' z1 z2 z3 z4 z5 z6 z7 => ?_⟩
      rw [hix] at z3
      exact k H' S' D n' z1 z2 z3 (fun b o e nb => z4 b o (k1 b o e fun y => nb (.inr y)) nb) (fun b z => by
        rcases z5 b z with y | y
        · exact .inl y
        · rcases k1.none_back y with y | y
          · rw [show b = r from y] at z
            exact absurd z (z5.out er1 nr)
          · exact .inr y) (fun b o e nb => by
        by_cases c : b = r
        · rw [c]
          exact z6 r _ er1 nr
        · exact z6 b o (k1 b o e c) nb) z7
/-! ### answers -/
/-- the request as it stays -/
def Stay (K : PySem.W.Frag) (H : Hp) (S : Reg) (r D a : Addr) (xs : List V) : Prop := (∃ o, H a = some o ∧ (o = .lst xs ∨ ∃ ob, o = .frz ob (.lst xs)) ∧ ¬ S a ∧ a ≠ r ∧ a ≠ D) ∨ ∀ H' : Hp, SqL K H' a xs
theorem Stay.sq {H : Hp} {S : Reg} {r D a : Addr} {xs : List V} (h : Stay K H S r D a xs) : SqL K H a xs := by
  rcases h with ⟨o, e, h | ⟨ob, h⟩, _⟩ | h
  · exact .inl (.inl (by rw [e, h]))
  · exact .inl (.inr ⟨ob, by rw [e, h]⟩)
  · exact h H
/-- a loop's measure: what the reader hasn't read -/
def left (r : Addr) (H : Hp) : Nat := match H r with
  | some (.ins _ _ fs) => match fs.lookup ("at" : Str) with
    | some (V.int i) => (40000 - i).toNat
    | _ => 0
  | _ => 0
theorem left_is {H : Hp} {r a : Addr} {i : Nat} (h : RdAt CR H r a i) : left r H = 40000 - i := by
  obtain ⟨dr, e⟩ := h
  unfold left
  rw [e]
  show (match (rF a (i : Int)).lookup ("at" : Str) with | some (V.int i) => (40000 - i).toNat | _ => 0) = _
  rw [rF_at]
  show (40000 - (i : Int)).toNat = 40000 - i
  omega
def spAns (K : PySem.W.Frag) : Sp := fun vs H Q _ => ∃ (a : Addr) (ns : List Nat), vs = [.ref a] ∧ SqL K H a (vI ns) ∧ ns.length ≤ 30000 ∧ PyKs190.answers_asked (Ks190Neutral.ints ns) = true ∧
  ∀ (H' : Hp) (D : Addr), H' D = some (.lst ((PyKs190.answers (Ks190Neutral.ints ns)).map V.int)) → Q (.ref D) H'
theorem asked_is {l : List Int} (h : PyKs190.answers_asked l = true) : ∃ raw, PyFlat.calls PyKs190.shape l.length l = some raw ∧ raw.length ≤ 5000 ∧ Ks190Neutral.asked (raw.map PyKs190.whole) = true ∧ (PyKs190.answers l).length ≤ 10000000 := by
  unfold PyKs190.answers_asked at h
  split at h
  · cases h
  · rename_i raw e
    simp only [Bool.and_eq_true] at h
    exact ⟨raw, e, of_decide_eq_true h.1.1.1.2, h.1.2, of_decide_eq_true h.2⟩
theorem scAns : FnScope ["calls", "pages", "reader", "told", "answer"] ["calls"] (defScope sAnswers) := ⟨rfl, rfl, rfl, by decide +kernel, rfl, by decide +kernel, by decide +kernel⟩
theorem ok_ans {f : Addr} {fd : FuncData} (F : Fun K "answers" "answers" sAnswers f fd) (T : Txt K mg CA CP CR) (IP : Ini P w K mg base CP 1 ["self"] (spPInit CP)) (IR : Ini P w K mg base CR 1 ["self", "numbers"] (spRInit CR))
    (MM : Mth P w K mg base CR "has_more" 1 ["self"] (spMore K CR)) (DN : Def P w K mg base "next_answer" 7 ["reader", "pages"] (spNext K CP CR)) : FnOk P w K mg base CX0 8 f fd ["calls"] (spAns K) := by
  obtain ⟨fP, fdP, GP, mP, bP⟩ := IP
  obtain ⟨fR, fdR, GR, mR, bR⟩ := IR
  obtain ⟨fM, fdM, GM, mM, bM⟩ := MM
  obtain ⟨fN, fdN, GN, mN, kN, bN⟩ := DN
  refine F.ok scAns (fun vs H Q E h => ?_) (fun cdv A outer s H vs Q E hr h => ?_)
  · obtain ⟨a, ns, rfl, _⟩ := h
    rfl
  · obtain ⟨a, ns, rfl, hS, hn30, hask, k⟩ := h
    obtain ⟨raw, hraw, hraw5, haskd, hlen7⟩ := asked_is hask
    have hw := whole_all hraw
    rw [hw] at haskd
    have hgoes : Ks190Neutral.goes Ks190Neutral.start raw = true := by
      unfold Ks190Neutral.asked at haskd
      simp only [Bool.and_eq_true] at haskd
      exact haskd.1.2
    have hans : PyKs190.answers (Ks190Neutral.ints ns) = PyFlat.told (PyFlat.played Ks190Neutral.step Ks190Neutral.start raw) := by
      unfold PyKs190.answers PyKs190.calls
      rw [hraw]
      show PyFlat.told (PyFlat.played _ _ (raw.map PyKs190.whole)) = _
      rw [hw]
    refine ⟨_, pss_cons (ps_set (i := 1) scAns.nd rfl (Or.inl rfl) (pe_make0 mP GP (hr.mono (by decide)) (by rfl) T.gP bP .nil pass0))
      (pss_cons (ps_set (i := 2) scAns.nd rfl (Or.inl rfl) (pe_make mR GR (hr.mono (by decide)) (by rfl) T.gR bR .nil pass0 (pa_cons (pv 0) pa_nil)))
      (pss_cons (ps_set (i := 3) scAns.nd rfl (Or.inl rfl) (pe_lst pa_nil))
      (pss_cons (ps_while PassesOwn.never (pt_val (pe_meth0 (pv 2) T.cR mM GM (hr.mono (by decide)) bM .nil pass0))
        (pss_cons (ps_set (i := 4) scAns.nd rfl (Or.inl rfl) (pe_call GN (hr.mono (by decide)) (by rfl) mN kN bN .nil pass0 (pa_cons (pv 2) (pa_cons (pv 1) pa_nil))))
        (pss_cons (ps_expr (pe_bm PySem.F.plainAttrs_list PySem.F.slot_list_append PySem.F.type_list_append mt_append (pv 3) (pa_cons (pe_callB call_len (by rfl) T.len PySem.boot_len (pa_cons (pv 4) pa_nil)) pa_nil)))
        (pss_one (ps_expr (pe_bm PySem.F.plainAttrs_list PySem.F.slot_list_extend PySem.F.type_list_extend mt_extend (pv 3) (pa_cons (pv 4) pa_nil)))))))
      (pss_one (ps_ret (pv 3)))))), ?_⟩
    have hsz := sizeLine_eq
    intro p dx np ndx ne
    refine ⟨p, dx, rfl, upd_same, fun H1 S P1 K1 G1 => ⟨rfl, ?_⟩⟩
    have s01 : Same H H1 := Same.made np ndx K1
    have nS1 : ∀ b o, H b = some o → ¬ S b := fun b o e z => by
      have e1 : upd (upd H dx (.own p)) p (.ins CP dx []) b = some o := by
        rw [upd_ne (ne_of_none e np), upd_ne (ne_of_none e ndx)]
        exact e
      exact G1.out e1 (show ¬ b = p from ne_of_none e np) z
    refine ⟨_, rfl, ?_⟩
    intro r dr nr ndr ner
    refine ⟨r, dr, a, rfl, upd_same, fun H2 hr2 K2 => ⟨rfl, ?_⟩⟩
    have s12 : Same H1 H2 := Same.made nr ndr K2
    have P2 := P1.same s12
    have nSr : ¬ S r := fun z => by
      obtain ⟨o, e⟩ := P1.all r z
      rw [e] at nr
      cases nr
    refine ⟨by show 0 ≤ sizeLine; decide, fun D hD => ?_⟩
    have s23 := Same.new (o := .lst []) hD
    have P3 := P2.same s23
    have nSD : ¬ S D := fun z => by
      obtain ⟨o, e⟩ := P2.all D z
      rw [e] at hD
      cases hD
    obtain ⟨dr2, er2⟩ := id hr2
    have stay : Stay K (upd H2 D (.lst [])) S r D a (vI ns) := by
      have s03 : Same H (upd H2 D (.lst [])) := (s01.trans s12).trans s23
      have aux : ∀ o, H a = some o → ¬ S a ∧ a ≠ r ∧ a ≠ D := fun o e => ⟨nS1 a o e, ne_of_none (s01 _ _ e) nr, ne_of_none (s12 _ _ (s01 _ _ e)) hD⟩
      rcases hS with (h | ⟨ob, h⟩) | h
      · exact .inl ⟨_, s03 _ _ h, .inl rfl, aux _ h⟩
      · exact .inl ⟨_, s03 _ _ h, .inr ⟨ob, rfl⟩, aux _ h⟩
      · exact .inr fun _ => .inr h
    refine while_by (fun σ H' => ∃ (i n f : Nat) (cs : List (List (List Int))) (d : Medium) (v : Option V) (S : Reg) (T0 : List Int), σ = [some (.ref a), some (.ref p), some (.ref r), some (.ref D), v] ∧ RdAt CR H' r a i ∧ PagesAt CP H' p S d n ∧
      PyFlat.calls PyKs190.shape f (Ks190Neutral.ints (ns.drop i)) = some cs ∧ Ks190Neutral.goes d cs = true ∧ n + cs.length ≤ 5000 ∧ T0 ++ PyFlat.told (PyFlat.played Ks190Neutral.step d cs) = PyKs190.answers (Ks190Neutral.ints ns) ∧
      H' D = some (.lst (T0.map V.int)) ∧ ¬ S r ∧ ¬ S D ∧ Stay K H' S r D a (vI ns)) (fun _ H' => left r H') ?_ ?_ ?_
    · exact ⟨0, 0, (Ks190Neutral.ints ns).length, raw, Ks190Neutral.start, none, S, [], rfl, ⟨dr2, s23 _ _ er2⟩, P3, hraw, hgoes, by omega, hans.symm, upd_same, nSr, nSD, stay⟩
    · rintro σ H3 ⟨i, n, f, cs, d, v, S, T0, rfl, hr3, P3, hcs, hgo, hn5, hT0, hD3, nSr, nSD, stay⟩
      obtain ⟨dr3, er3⟩ := id hr3
      have hS3 := stay.sq
      refine ⟨_, rfl, r, dr3, _, rfl, er3, rF_no _ _ (by decide +kernel) (by decide +kernel), r, a, i, ns, rfl, hr3, hS3, _, rfl, ?_⟩
      refine ite2 (fun hi => ?_) (fun hi => ?_)
      · have hi := of_decide_eq_true hi
        have hne : ns.drop i ≠ [] := fun z => by
          have e := congrArg List.length z
          rw [List.length_drop, List.length_nil] at e
          omega
        obtain ⟨f', q, t, cs', rfl, hd, hcs'⟩ := calls_dec hcs hne
        have hgo2 : (Ks190Neutral.form q.call && Ks190Neutral.scripted d q.call && Ks190Neutral.goes (Ks190Neutral.step d q.call).1 cs') = true := hgo
        rw [Bool.and_eq_true, Bool.and_eq_true] at hgo2
        obtain ⟨⟨hf, hsc⟩, hgo3⟩ := hgo2
        have hg := good_of hf hsc
        have htold : PyFlat.told (PyFlat.played Ks190Neutral.step d (q.call :: cs')) = (((Ks190Neutral.step d q.call).2.length : Int) :: (Ks190Neutral.step d q.call).2) ++ PyFlat.told (PyFlat.played Ks190Neutral.step (Ks190Neutral.step d q.call).1 cs') := rfl
        rw [htold] at hT0
        rw [List.length_cons] at hn5
        have hlens := congrArg List.length hT0
        rw [List.length_append, List.length_append, List.length_cons] at hlens
        refine ⟨_, rfl, _, rfl, q, r, a, p, i, ns, t, S, d, n, rfl, hr3, hS3, hd, hn30, P3, nSr, by omega, hg, by omega, fun H4 S4 A n4 P4 hn4 hr4 K4 G4 hA hA' => ?_⟩
        have nSr4 : ¬ S4 r := G4.out er3 nSr
        have nSD4 : ¬ S4 D := G4.out hD3 nSD
        have Dr : D ≠ r := ne_of hD3 er3 fun z => by cases z
        have hD4 : H4 D = some (.lst (T0.map V.int)) := K4 _ _ hD3 fun z => z.elim nSD Dr
        have DA : D ≠ A := hA D _ hD3 nSD
        refine ⟨_, rfl, .inl ⟨rfl, _, SqL.of hD4⟩, _, rfl, _, _, rfl, .inl ⟨_, SqL.of hA', rfl⟩, D, _, _, rfl, rfl, hD4, by rw [List.length_map]; omega, ?_⟩
        refine ⟨_, rfl, .inl ⟨rfl, _, SqL.of upd_same⟩, _, rfl, D, A, _, _, rfl, rfl, upd_same, by rw [upd_ne DA.symm]; exact hA', ?_, ?_⟩
        · rw [List.length_append, List.length_map, List.length_map, List.length_singleton]
          omega
        rw [upd_upd]
        have notD : ∀ b, S4 b → ¬ Only D b := fun b sb z => nSD4 (by rw [← (show b = D from z)]; exact sb)
        have hr5 : RdAt CR (upd H4 D (.lst (T0.map V.int ++ [V.int ((((Ks190Neutral.step d q.call).2.map V.int).length : Nat) : Int)] ++ (Ks190Neutral.step d q.call).2.map V.int))) r a (i + q.flat.length) := by
          obtain ⟨d4, e4⟩ := hr4
          exact ⟨d4, by rw [upd_ne Dr.symm]; exact e4⟩
        have hpos : 0 < q.flat.length := Nat.succ_pos _
        have hfl : i + q.flat.length ≤ ns.length := by
          have e := congrArg List.length hd
          rw [List.length_drop, List.length_append] at e
          omega
        refine ⟨⟨i + q.flat.length, n4, f', cs', (Ks190Neutral.step d q.call).1, _, S4, T0 ++ (((Ks190Neutral.step d q.call).2.length : Int) :: (Ks190Neutral.step d q.call).2), rfl, hr5, P4.keep Keep.only_upd notD, ?_, hgo3, by omega, ?_, ?_, nSr4, nSD4, ?_⟩, ?_⟩
        · rw [drop_more hd rfl]
          exact hcs'
        · rw [List.append_assoc]
          exact hT0
        · rw [upd_same, List.length_map, List.map_append, List.append_assoc]
          rfl
        · rcases stay with ⟨o, e, ho, n1, n2, n3⟩ | h
          · refine .inl ⟨o, ?_, ho, G4.out e n1, n2, n3⟩
            rw [upd_ne n3]
            exact K4 _ _ e fun z => z.elim n1 n2
          · exact .inr h
        · rw [left_is hr5, left_is hr3]
          omega
      · have hi : ¬ i < ns.length := fun z => hi (decide_eq_true z)
        have hdn : ns.drop i = [] := List.drop_eq_nil_iff.mpr (by omega)
        rw [hdn] at hcs
        obtain rfl := calls_nil hcs
        have hT1 : T0 = PyKs190.answers (Ks190Neutral.ints ns) := (List.append_nil T0).symm.trans hT0
        exact ⟨_, rfl, k H3 D (by rw [← hT1]; exact hD3)⟩
    · rintro σ H Q Q' hq ⟨v, h1, b, dx, fs, e, ho, lk, r', a', i', ns', e2, h3, h4, c, e5, q⟩
      exact ⟨v, h1, b, dx, fs, e, ho, lk, r', a', i', ns', e2, h3, h4, c, e5, hq _ _ q⟩
end
end Hd

/-! ## part B10 -/
namespace Hd
open PySem PySem.Spec PyProof.Rows L2
open PySem.W (Codec)
theorem all_mk {P : Program} {w : World} {K : PySem.W.Frag} {h : Heap} {mg : Str → Option Value} {fa CA CP CR f_placeOf f_padOf f_under f_keysOf f_refd f_pInit f_fill f_store f_show_ f_rInit f_more f_number f_row f_aInit f_read f_write f_chance f_place f_pad f_account f_drawer f_find f_put f_get f_drop f_da f_next f_ans : Addr} (X : K.In h) (G : h.Ns mainGlobals mg) (hfa : mg "answers" = some (.ref fa))
    {od_placeOf an_placeOf od_padOf an_padOf od_under an_under od_keysOf an_keysOf od_refd an_refd od_pInit an_pInit od_fill an_fill od_store an_store od_show_ an_show_ od_rInit an_rInit od_more an_more od_number an_number od_row an_row od_aInit an_aInit od_read an_read od_write an_write od_chance an_chance od_place an_place od_pad an_pad od_account an_account od_drawer an_drawer od_find an_find od_put an_put od_get an_get od_drop an_drop od_da an_da od_next an_next od_ans an_ans : Option Addr} {sl_placeOf sl_padOf sl_under sl_keysOf sl_refd sl_pInit sl_fill sl_store sl_show_ sl_rInit sl_more sl_number sl_row sl_aInit sl_read sl_write sl_chance sl_place sl_pad sl_account sl_drawer sl_find sl_put sl_get sl_drop sl_da sl_next sl_ans : Array (Option Value)}
    {oc_placeOf kV_placeOf dc_placeOf pm_placeOf cd_placeOf ct_placeOf oc_padOf kV_padOf dc_padOf pm_padOf cd_padOf ct_padOf oc_under kV_under dc_under pm_under cd_under ct_under oc_keysOf kV_keysOf dc_keysOf pm_keysOf cd_keysOf ct_keysOf oc_refd kV_refd dc_refd pm_refd cd_refd ct_refd oc_pInit kV_pInit dc_pInit pm_pInit cd_pInit ct_pInit oc_fill kV_fill dc_fill pm_fill cd_fill ct_fill oc_store kV_store dc_store pm_store cd_store ct_store oc_show_ kV_show_ dc_show_ pm_show_ cd_show_ ct_show_ oc_rInit kV_rInit dc_rInit pm_rInit cd_rInit ct_rInit oc_more kV_more dc_more pm_more cd_more ct_more oc_number kV_number dc_number pm_number cd_number ct_number oc_row kV_row dc_row pm_row cd_row ct_row oc_aInit kV_aInit dc_aInit pm_aInit cd_aInit ct_aInit oc_read kV_read dc_read pm_read cd_read ct_read oc_write kV_write dc_write pm_write cd_write ct_write oc_chance kV_chance dc_chance pm_chance cd_chance ct_chance oc_place kV_place dc_place pm_place cd_place ct_place oc_pad kV_pad dc_pad pm_pad cd_pad ct_pad oc_account kV_account dc_account pm_account cd_account ct_account oc_drawer kV_drawer dc_drawer pm_drawer cd_drawer ct_drawer oc_find kV_find dc_find pm_find cd_find ct_find oc_put kV_put dc_put pm_put cd_put ct_put oc_get kV_get dc_get pm_get cd_get ct_get oc_drop kV_drop dc_drop pm_drop cd_drop ct_drop oc_da kV_da dc_da pm_da cd_da ct_da oc_next kV_next dc_next pm_next cd_next ct_next oc_ans kV_ans dc_ans pm_ans cd_ans ct_ans : Value} {t_PAGE_COUNT t_PAGE_BYTES t_KEY_BYTES t_KEYS_AT_MOST t_SLOT_COUNT t_SALT_BYTES t_MARK_BYTES t_PAD_BYTES t_FRESH t_PUT t_GET t_DROP : Tok}
    (gCA : PySem.W.nsIn K mainGlobals "Asking" = some (some (.ref CA)))
    (gCP : PySem.W.nsIn K mainGlobals "Pages" = some (some (.ref CP)))
    (gCR : PySem.W.nsIn K mainGlobals "Reader" = some (some (.ref CR)))
    (a_placeOf : PySem.W.nsIn K mainGlobals "place_of" = some (some (.ref f_placeOf)))
    (l_placeOf : K.lookup f_placeOf = some ⟨oc_placeOf, od_placeOf, .func (PySem.W.fnOf "place_of" "place_of" (defArgs sPlaceOf) (defBody sPlaceOf) (defScope sPlaceOf) .none kV_placeOf dc_placeOf pm_placeOf an_placeOf cd_placeOf ct_placeOf), sl_placeOf⟩)
    (c_placeOf : PySem.W.codeIn K cd_placeOf "place_of" = true)
    (k_placeOf : PySem.W.keepIn K (.ref f_placeOf) = true)
    (a_padOf : PySem.W.nsIn K mainGlobals "pad_of" = some (some (.ref f_padOf)))
    (l_padOf : K.lookup f_padOf = some ⟨oc_padOf, od_padOf, .func (PySem.W.fnOf "pad_of" "pad_of" (defArgs sPadOf) (defBody sPadOf) (defScope sPadOf) .none kV_padOf dc_padOf pm_padOf an_padOf cd_padOf ct_padOf), sl_padOf⟩)
    (c_padOf : PySem.W.codeIn K cd_padOf "pad_of" = true)
    (k_padOf : PySem.W.keepIn K (.ref f_padOf) = true)
    (a_under : PySem.W.nsIn K mainGlobals "under_pad" = some (some (.ref f_under)))
    (l_under : K.lookup f_under = some ⟨oc_under, od_under, .func (PySem.W.fnOf "under_pad" "under_pad" (defArgs sUnder) (defBody sUnder) (defScope sUnder) .none kV_under dc_under pm_under an_under cd_under ct_under), sl_under⟩)
    (c_under : PySem.W.codeIn K cd_under "under_pad" = true)
    (k_under : PySem.W.keepIn K (.ref f_under) = true)
    (a_keysOf : PySem.W.nsIn K mainGlobals "keys_of" = some (some (.ref f_keysOf)))
    (l_keysOf : K.lookup f_keysOf = some ⟨oc_keysOf, od_keysOf, .func (PySem.W.fnOf "keys_of" "keys_of" (defArgs sKeysOf) (defBody sKeysOf) (defScope sKeysOf) .none kV_keysOf dc_keysOf pm_keysOf an_keysOf cd_keysOf ct_keysOf), sl_keysOf⟩)
    (c_keysOf : PySem.W.codeIn K cd_keysOf "keys_of" = true)
    (k_keysOf : PySem.W.keepIn K (.ref f_keysOf) = true)
    (a_refd : PySem.W.nsIn K mainGlobals "is_refused" = some (some (.ref f_refd)))
    (l_refd : K.lookup f_refd = some ⟨oc_refd, od_refd, .func (PySem.W.fnOf "is_refused" "is_refused" (defArgs sRefused) (defBody sRefused) (defScope sRefused) .none kV_refd dc_refd pm_refd an_refd cd_refd ct_refd), sl_refd⟩)
    (c_refd : PySem.W.codeIn K cd_refd "is_refused" = true)
    (k_refd : PySem.W.keepIn K (.ref f_refd) = true)
    (a_pInit : PySem.W.findIn K (.ref CP) "__init__" = some (some (.ref f_pInit)))
    (i_pInit : PySem.W.isFn K (.ref f_pInit) = true)
    (l_pInit : K.lookup f_pInit = some ⟨oc_pInit, od_pInit, .func (PySem.W.fnOf "__init__" "Pages.__init__" (defArgs sPInit) (defBody sPInit) (defScope sPInit) .none kV_pInit dc_pInit pm_pInit an_pInit cd_pInit ct_pInit), sl_pInit⟩)
    (c_pInit : PySem.W.codeIn K cd_pInit "Pages.__init__" = true)
    (k_pInit : PySem.W.keepIn K (.ref f_pInit) = true)
    (a_fill : PySem.W.findIn K (.ref CP) "fill" = some (some (.ref f_fill)))
    (i_fill : PySem.W.isFn K (.ref f_fill) = true)
    (l_fill : K.lookup f_fill = some ⟨oc_fill, od_fill, .func (PySem.W.fnOf "fill" "Pages.fill" (defArgs sFill) (defBody sFill) (defScope sFill) .none kV_fill dc_fill pm_fill an_fill cd_fill ct_fill), sl_fill⟩)
    (c_fill : PySem.W.codeIn K cd_fill "Pages.fill" = true)
    (k_fill : PySem.W.keepIn K (.ref f_fill) = true)
    (a_store : PySem.W.findIn K (.ref CP) "store" = some (some (.ref f_store)))
    (i_store : PySem.W.isFn K (.ref f_store) = true)
    (l_store : K.lookup f_store = some ⟨oc_store, od_store, .func (PySem.W.fnOf "store" "Pages.store" (defArgs sStore) (defBody sStore) (defScope sStore) .none kV_store dc_store pm_store an_store cd_store ct_store), sl_store⟩)
    (c_store : PySem.W.codeIn K cd_store "Pages.store" = true)
    (k_store : PySem.W.keepIn K (.ref f_store) = true)
    (a_show_ : PySem.W.findIn K (.ref CP) "show" = some (some (.ref f_show_)))
    (i_show_ : PySem.W.isFn K (.ref f_show_) = true)
    (l_show_ : K.lookup f_show_ = some ⟨oc_show_, od_show_, .func (PySem.W.fnOf "show" "Pages.show" (defArgs sShow) (defBody sShow) (defScope sShow) .none kV_show_ dc_show_ pm_show_ an_show_ cd_show_ ct_show_), sl_show_⟩)
    (c_show_ : PySem.W.codeIn K cd_show_ "Pages.show" = true)
    (k_show_ : PySem.W.keepIn K (.ref f_show_) = true)
    (a_rInit : PySem.W.findIn K (.ref CR) "__init__" = some (some (.ref f_rInit)))
    (i_rInit : PySem.W.isFn K (.ref f_rInit) = true)
    (l_rInit : K.lookup f_rInit = some ⟨oc_rInit, od_rInit, .func (PySem.W.fnOf "__init__" "Reader.__init__" (defArgs sRInit) (defBody sRInit) (defScope sRInit) .none kV_rInit dc_rInit pm_rInit an_rInit cd_rInit ct_rInit), sl_rInit⟩)
    (c_rInit : PySem.W.codeIn K cd_rInit "Reader.__init__" = true)
    (k_rInit : PySem.W.keepIn K (.ref f_rInit) = true)
    (a_more : PySem.W.findIn K (.ref CR) "has_more" = some (some (.ref f_more)))
    (i_more : PySem.W.isFn K (.ref f_more) = true)
    (l_more : K.lookup f_more = some ⟨oc_more, od_more, .func (PySem.W.fnOf "has_more" "Reader.has_more" (defArgs sMore) (defBody sMore) (defScope sMore) .none kV_more dc_more pm_more an_more cd_more ct_more), sl_more⟩)
    (c_more : PySem.W.codeIn K cd_more "Reader.has_more" = true)
    (k_more : PySem.W.keepIn K (.ref f_more) = true)
    (a_number : PySem.W.findIn K (.ref CR) "number" = some (some (.ref f_number)))
    (i_number : PySem.W.isFn K (.ref f_number) = true)
    (l_number : K.lookup f_number = some ⟨oc_number, od_number, .func (PySem.W.fnOf "number" "Reader.number" (defArgs sNumber) (defBody sNumber) (defScope sNumber) .none kV_number dc_number pm_number an_number cd_number ct_number), sl_number⟩)
    (c_number : PySem.W.codeIn K cd_number "Reader.number" = true)
    (k_number : PySem.W.keepIn K (.ref f_number) = true)
    (a_row : PySem.W.findIn K (.ref CR) "row" = some (some (.ref f_row)))
    (i_row : PySem.W.isFn K (.ref f_row) = true)
    (l_row : K.lookup f_row = some ⟨oc_row, od_row, .func (PySem.W.fnOf "row" "Reader.row" (defArgs sRow) (defBody sRow) (defScope sRow) .none kV_row dc_row pm_row an_row cd_row ct_row), sl_row⟩)
    (c_row : PySem.W.codeIn K cd_row "Reader.row" = true)
    (k_row : PySem.W.keepIn K (.ref f_row) = true)
    (a_aInit : PySem.W.findIn K (.ref CA) "__init__" = some (some (.ref f_aInit)))
    (i_aInit : PySem.W.isFn K (.ref f_aInit) = true)
    (l_aInit : K.lookup f_aInit = some ⟨oc_aInit, od_aInit, .func (PySem.W.fnOf "__init__" "Asking.__init__" (defArgs sAInit) (defBody sAInit) (defScope sAInit) .none kV_aInit dc_aInit pm_aInit an_aInit cd_aInit ct_aInit), sl_aInit⟩)
    (c_aInit : PySem.W.codeIn K cd_aInit "Asking.__init__" = true)
    (k_aInit : PySem.W.keepIn K (.ref f_aInit) = true)
    (a_read : PySem.W.findIn K (.ref CA) "read" = some (some (.ref f_read)))
    (i_read : PySem.W.isFn K (.ref f_read) = true)
    (l_read : K.lookup f_read = some ⟨oc_read, od_read, .func (PySem.W.fnOf "read" "Asking.read" (defArgs sRead) (defBody sRead) (defScope sRead) .none kV_read dc_read pm_read an_read cd_read ct_read), sl_read⟩)
    (c_read : PySem.W.codeIn K cd_read "Asking.read" = true)
    (k_read : PySem.W.keepIn K (.ref f_read) = true)
    (a_write : PySem.W.findIn K (.ref CA) "write" = some (some (.ref f_write)))
    (i_write : PySem.W.isFn K (.ref f_write) = true)
    (l_write : K.lookup f_write = some ⟨oc_write, od_write, .func (PySem.W.fnOf "write" "Asking.write" (defArgs sWrite) (defBody sWrite) (defScope sWrite) .none kV_write dc_write pm_write an_write cd_write ct_write), sl_write⟩)
    (c_write : PySem.W.codeIn K cd_write "Asking.write" = true)
    (k_write : PySem.W.keepIn K (.ref f_write) = true)
    (a_chance : PySem.W.findIn K (.ref CA) "chance" = some (some (.ref f_chance)))
    (i_chance : PySem.W.isFn K (.ref f_chance) = true)
    (l_chance : K.lookup f_chance = some ⟨oc_chance, od_chance, .func (PySem.W.fnOf "chance" "Asking.chance" (defArgs sChance) (defBody sChance) (defScope sChance) .none kV_chance dc_chance pm_chance an_chance cd_chance ct_chance), sl_chance⟩)
    (c_chance : PySem.W.codeIn K cd_chance "Asking.chance" = true)
    (k_chance : PySem.W.keepIn K (.ref f_chance) = true)
    (a_place : PySem.W.findIn K (.ref CA) "place" = some (some (.ref f_place)))
    (i_place : PySem.W.isFn K (.ref f_place) = true)
    (l_place : K.lookup f_place = some ⟨oc_place, od_place, .func (PySem.W.fnOf "place" "Asking.place" (defArgs sPlace) (defBody sPlace) (defScope sPlace) .none kV_place dc_place pm_place an_place cd_place ct_place), sl_place⟩)
    (c_place : PySem.W.codeIn K cd_place "Asking.place" = true)
    (k_place : PySem.W.keepIn K (.ref f_place) = true)
    (a_pad : PySem.W.findIn K (.ref CA) "pad" = some (some (.ref f_pad)))
    (i_pad : PySem.W.isFn K (.ref f_pad) = true)
    (l_pad : K.lookup f_pad = some ⟨oc_pad, od_pad, .func (PySem.W.fnOf "pad" "Asking.pad" (defArgs sPad) (defBody sPad) (defScope sPad) .none kV_pad dc_pad pm_pad an_pad cd_pad ct_pad), sl_pad⟩)
    (c_pad : PySem.W.codeIn K cd_pad "Asking.pad" = true)
    (k_pad : PySem.W.keepIn K (.ref f_pad) = true)
    (a_account : PySem.W.findIn K (.ref CA) "account" = some (some (.ref f_account)))
    (i_account : PySem.W.isFn K (.ref f_account) = true)
    (l_account : K.lookup f_account = some ⟨oc_account, od_account, .func (PySem.W.fnOf "account" "Asking.account" (defArgs sAccount) (defBody sAccount) (defScope sAccount) .none kV_account dc_account pm_account an_account cd_account ct_account), sl_account⟩)
    (c_account : PySem.W.codeIn K cd_account "Asking.account" = true)
    (k_account : PySem.W.keepIn K (.ref f_account) = true)
    (a_drawer : PySem.W.nsIn K mainGlobals "drawer_places" = some (some (.ref f_drawer)))
    (l_drawer : K.lookup f_drawer = some ⟨oc_drawer, od_drawer, .func (PySem.W.fnOf "drawer_places" "drawer_places" (defArgs sDrawer) (defBody sDrawer) (defScope sDrawer) .none kV_drawer dc_drawer pm_drawer an_drawer cd_drawer ct_drawer), sl_drawer⟩)
    (c_drawer : PySem.W.codeIn K cd_drawer "drawer_places" = true)
    (k_drawer : PySem.W.keepIn K (.ref f_drawer) = true)
    (a_find : PySem.W.nsIn K mainGlobals "find_places" = some (some (.ref f_find)))
    (l_find : K.lookup f_find = some ⟨oc_find, od_find, .func (PySem.W.fnOf "find_places" "find_places" (defArgs sFind) (defBody sFind) (defScope sFind) .none kV_find dc_find pm_find an_find cd_find ct_find), sl_find⟩)
    (c_find : PySem.W.codeIn K cd_find "find_places" = true)
    (k_find : PySem.W.keepIn K (.ref f_find) = true)
    (a_put : PySem.W.nsIn K mainGlobals "put_data" = some (some (.ref f_put)))
    (l_put : K.lookup f_put = some ⟨oc_put, od_put, .func (PySem.W.fnOf "put_data" "put_data" (defArgs sPut) (defBody sPut) (defScope sPut) .none kV_put dc_put pm_put an_put cd_put ct_put), sl_put⟩)
    (c_put : PySem.W.codeIn K cd_put "put_data" = true)
    (k_put : PySem.W.keepIn K (.ref f_put) = true)
    (a_get : PySem.W.nsIn K mainGlobals "get_data" = some (some (.ref f_get)))
    (l_get : K.lookup f_get = some ⟨oc_get, od_get, .func (PySem.W.fnOf "get_data" "get_data" (defArgs sGet) (defBody sGet) (defScope sGet) .none kV_get dc_get pm_get an_get cd_get ct_get), sl_get⟩)
    (c_get : PySem.W.codeIn K cd_get "get_data" = true)
    (k_get : PySem.W.keepIn K (.ref f_get) = true)
    (a_drop : PySem.W.nsIn K mainGlobals "drop_data" = some (some (.ref f_drop)))
    (l_drop : K.lookup f_drop = some ⟨oc_drop, od_drop, .func (PySem.W.fnOf "drop_data" "drop_data" (defArgs sDrop) (defBody sDrop) (defScope sDrop) .none kV_drop dc_drop pm_drop an_drop cd_drop ct_drop), sl_drop⟩)
    (c_drop : PySem.W.codeIn K cd_drop "drop_data" = true)
    (k_drop : PySem.W.keepIn K (.ref f_drop) = true)
    (a_da : PySem.W.nsIn K mainGlobals "drawer_answer" = some (some (.ref f_da)))
    (l_da : K.lookup f_da = some ⟨oc_da, od_da, .func (PySem.W.fnOf "drawer_answer" "drawer_answer" (defArgs sDAnswer) (defBody sDAnswer) (defScope sDAnswer) .none kV_da dc_da pm_da an_da cd_da ct_da), sl_da⟩)
    (c_da : PySem.W.codeIn K cd_da "drawer_answer" = true)
    (k_da : PySem.W.keepIn K (.ref f_da) = true)
    (a_next : PySem.W.nsIn K mainGlobals "next_answer" = some (some (.ref f_next)))
    (l_next : K.lookup f_next = some ⟨oc_next, od_next, .func (PySem.W.fnOf "next_answer" "next_answer" (defArgs sNext) (defBody sNext) (defScope sNext) .none kV_next dc_next pm_next an_next cd_next ct_next), sl_next⟩)
    (c_next : PySem.W.codeIn K cd_next "next_answer" = true)
    (k_next : PySem.W.keepIn K (.ref f_next) = true)
    (a_ans : PySem.W.nsIn K mainGlobals "answers" = some (some (.ref f_ans)))
    (l_ans : K.lookup f_ans = some ⟨oc_ans, od_ans, .func (PySem.W.fnOf "answers" "answers" (defArgs sAnswers) (defBody sAnswers) (defScope sAnswers) .none kV_ans dc_ans pm_ans an_ans cd_ans ct_ans), sl_ans⟩)
    (c_ans : PySem.W.codeIn K cd_ans "answers" = true)
    (k_ans : PySem.W.keepIn K (.ref f_ans) = true)
    (pgCA : PySem.W.plainGet K CA Str.empty = true)
    (hdCA : PySem.W.hasDictIn K CA = true)
    (poCA : PySem.W.plainOver K CA = true)
    (saCA : PySem.W.findIn K (.ref CA) "__setattr__" = some (some (.builtin "object.__setattr__")))
    (mkCA : PySem.W.makesIn K CA = true)
    (kcCA : PySem.W.keepIn K (.ref CA) = true)
    (pgCP : PySem.W.plainGet K CP Str.empty = true)
    (hdCP : PySem.W.hasDictIn K CP = true)
    (poCP : PySem.W.plainOver K CP = true)
    (saCP : PySem.W.findIn K (.ref CP) "__setattr__" = some (some (.builtin "object.__setattr__")))
    (mkCP : PySem.W.makesIn K CP = true)
    (kcCP : PySem.W.keepIn K (.ref CP) = true)
    (pgCR : PySem.W.plainGet K CR Str.empty = true)
    (hdCR : PySem.W.hasDictIn K CR = true)
    (poCR : PySem.W.plainOver K CR = true)
    (saCR : PySem.W.findIn K (.ref CR) "__setattr__" = some (some (.builtin "object.__setattr__")))
    (mkCR : PySem.W.makesIn K CR = true)
    (kcCR : PySem.W.keepIn K (.ref CR) = true)
    (n_pages : PySem.W.findIn K (.ref CA) "pages" = some none)
    (n_script : PySem.W.findIn K (.ref CA) "script" = some none)
    (n_things : PySem.W.findIn K (.ref CA) "things" = some none)
    (n_filling : PySem.W.findIn K (.ref CP) "filling" = some none)
    (n_written : PySem.W.findIn K (.ref CP) "written" = some none)
    (n_numbers : PySem.W.findIn K (.ref CR) "numbers" = some none)
    (n_at : PySem.W.findIn K (.ref CR) "at" = some none)
    (v_PAGE_COUNT : PySem.W.nsIn K mainGlobals "PAGE_COUNT" = some (some (.int 1024 t_PAGE_COUNT)))
    (v_PAGE_BYTES : PySem.W.nsIn K mainGlobals "PAGE_BYTES" = some (some (.int 96 t_PAGE_BYTES)))
    (v_KEY_BYTES : PySem.W.nsIn K mainGlobals "KEY_BYTES" = some (some (.int 32 t_KEY_BYTES)))
    (v_KEYS_AT_MOST : PySem.W.nsIn K mainGlobals "KEYS_AT_MOST" = some (some (.int 4 t_KEYS_AT_MOST)))
    (v_SLOT_COUNT : PySem.W.nsIn K mainGlobals "SLOT_COUNT" = some (some (.int 64 t_SLOT_COUNT)))
    (v_SALT_BYTES : PySem.W.nsIn K mainGlobals "SALT_BYTES" = some (some (.int 16 t_SALT_BYTES)))
    (v_MARK_BYTES : PySem.W.nsIn K mainGlobals "MARK_BYTES" = some (some (.int 16 t_MARK_BYTES)))
    (v_PAD_BYTES : PySem.W.nsIn K mainGlobals "PAD_BYTES" = some (some (.int 80 t_PAD_BYTES)))
    (v_FRESH : PySem.W.nsIn K mainGlobals "FRESH" = some (some (.int 0 t_FRESH)))
    (v_PUT : PySem.W.nsIn K mainGlobals "PUT" = some (some (.int 1 t_PUT)))
    (v_GET : PySem.W.nsIn K mainGlobals "GET" = some (some (.int 2 t_GET)))
    (v_DROP : PySem.W.nsIn K mainGlobals "DROP" = some (some (.int 3 t_DROP)))
    (z_len : PySem.W.nsIn K mainGlobals "len" = some none)
    (z_range : PySem.W.nsIn K mainGlobals "range" = some none)
    (z_zip : PySem.W.nsIn K mainGlobals "zip" = some none)
    (z_any : PySem.W.nsIn K mainGlobals "any" = some none)
    (z_list : PySem.W.nsIn K mainGlobals "list" = some none) :
    ∃ fd : FuncData, (∀ (s : Shared) (us : List Value), us.length = (["calls"] : List Str).length → BindsTo s fd ⟨us, []⟩ ((["calls"] : List Str).zip us)) ∧ ∀ base : Heap, K.In base → base.Ns mainGlobals mg → FnOk P w K mg base CX0 8 fa fd ["calls"] (spAns K) := by
  have e := hfa.symm.trans (PySem.W.mg_of X G a_ans)
  cases e
  have T : Txt K mg CA CP CR := ⟨⟨pgCA, hdCA, poCA, saCA⟩, ⟨pgCP, hdCP, poCP, saCP⟩, ⟨pgCR, hdCR, poCR, saCR⟩, n_pages, n_script, n_things, n_filling, n_written, n_numbers, n_at, PySem.W.mg_of X G gCA, PySem.W.mg_of X G gCP, PySem.W.mg_of X G gCR, ⟨_, PySem.W.mg_of X G v_PAGE_COUNT⟩, ⟨_, PySem.W.mg_of X G v_PAGE_BYTES⟩, ⟨_, PySem.W.mg_of X G v_KEY_BYTES⟩, ⟨_, PySem.W.mg_of X G v_KEYS_AT_MOST⟩, ⟨_, PySem.W.mg_of X G v_SLOT_COUNT⟩, ⟨_, PySem.W.mg_of X G v_SALT_BYTES⟩, ⟨_, PySem.W.mg_of X G v_MARK_BYTES⟩, ⟨_, PySem.W.mg_of X G v_PAD_BYTES⟩, ⟨_, PySem.W.mg_of X G v_FRESH⟩, ⟨_, PySem.W.mg_of X G v_PUT⟩, ⟨_, PySem.W.mg_of X G v_GET⟩, ⟨_, PySem.W.mg_of X G v_DROP⟩, PySem.W.mg_none_of X G z_len, PySem.W.mg_none_of X G z_range, PySem.W.mg_none_of X G z_zip, PySem.W.mg_none_of X G z_any, PySem.W.mg_none_of X G z_list⟩
  have F_placeOf := fun_mk (st := sPlaceOf) l_placeOf c_placeOf k_placeOf
  have b_placeOf := F_placeOf.binds (ps := ["key", "j"]) fun _ _ _ _ _ _ us hl => match us, hl with | [_, _], _ => rfl
  have F_padOf := fun_mk (st := sPadOf) l_padOf c_padOf k_padOf
  have b_padOf := F_padOf.binds (ps := ["key", "salt"]) fun _ _ _ _ _ _ us hl => match us, hl with | [_, _], _ => rfl
  have F_under := fun_mk (st := sUnder) l_under c_under k_under
  have b_under := F_under.binds (ps := ["row", "pad"]) fun _ _ _ _ _ _ us hl => match us, hl with | [_, _], _ => rfl
  have F_keysOf := fun_mk (st := sKeysOf) l_keysOf c_keysOf k_keysOf
  have b_keysOf := F_keysOf.binds (ps := ["row"]) fun _ _ _ _ _ _ us hl => match us, hl with | [_], _ => rfl
  have F_refd := fun_mk (st := sRefused) l_refd c_refd k_refd
  have b_refd := F_refd.binds (ps := ["slot", "keys"]) fun _ _ _ _ _ _ us hl => match us, hl with | [_, _], _ => rfl
  have F_pInit := fun_mk (st := sPInit) l_pInit c_pInit k_pInit
  have b_pInit := F_pInit.binds (ps := ["self"]) fun _ _ _ _ _ _ us hl => match us, hl with | [_], _ => rfl
  have F_fill := fun_mk (st := sFill) l_fill c_fill k_fill
  have b_fill := F_fill.binds (ps := ["self", "seed"]) fun _ _ _ _ _ _ us hl => match us, hl with | [_, _], _ => rfl
  have F_store := fun_mk (st := sStore) l_store c_store k_store
  have b_store := F_store.binds (ps := ["self", "place", "content"]) fun _ _ _ _ _ _ us hl => match us, hl with | [_, _, _], _ => rfl
  have F_show_ := fun_mk (st := sShow) l_show_ c_show_ k_show_
  have b_show_ := F_show_.binds (ps := ["self", "place"]) fun _ _ _ _ _ _ us hl => match us, hl with | [_, _], _ => rfl
  have F_rInit := fun_mk (st := sRInit) l_rInit c_rInit k_rInit
  have b_rInit := F_rInit.binds (ps := ["self", "numbers"]) fun _ _ _ _ _ _ us hl => match us, hl with | [_, _], _ => rfl
  have F_more := fun_mk (st := sMore) l_more c_more k_more
  have b_more := F_more.binds (ps := ["self"]) fun _ _ _ _ _ _ us hl => match us, hl with | [_], _ => rfl
  have F_number := fun_mk (st := sNumber) l_number c_number k_number
  have b_number := F_number.binds (ps := ["self"]) fun _ _ _ _ _ _ us hl => match us, hl with | [_], _ => rfl
  have F_row := fun_mk (st := sRow) l_row c_row k_row
  have b_row := F_row.binds (ps := ["self"]) fun _ _ _ _ _ _ us hl => match us, hl with | [_], _ => rfl
  have F_aInit := fun_mk (st := sAInit) l_aInit c_aInit k_aInit
  have b_aInit := F_aInit.binds (ps := ["self", "pages", "script"]) fun _ _ _ _ _ _ us hl => match us, hl with | [_, _, _], _ => rfl
  have F_read := fun_mk (st := sRead) l_read c_read k_read
  have b_read := F_read.binds (ps := ["self", "place"]) fun _ _ _ _ _ _ us hl => match us, hl with | [_, _], _ => rfl
  have F_write := fun_mk (st := sWrite) l_write c_write k_write
  have b_write := F_write.binds (ps := ["self", "place", "content"]) fun _ _ _ _ _ _ us hl => match us, hl with | [_, _, _], _ => rfl
  have F_chance := fun_mk (st := sChance) l_chance c_chance k_chance
  have b_chance := F_chance.binds (ps := ["self", "size"]) fun _ _ _ _ _ _ us hl => match us, hl with | [_, _], _ => rfl
  have F_place := fun_mk (st := sPlace) l_place c_place k_place
  have b_place := F_place.binds (ps := ["self", "key", "j"]) fun _ _ _ _ _ _ us hl => match us, hl with | [_, _, _], _ => rfl
  have F_pad := fun_mk (st := sPad) l_pad c_pad k_pad
  have b_pad := F_pad.binds (ps := ["self", "key", "salt"]) fun _ _ _ _ _ _ us hl => match us, hl with | [_, _, _], _ => rfl
  have F_account := fun_mk (st := sAccount) l_account c_account k_account
  have b_account := F_account.binds (ps := ["self"]) fun _ _ _ _ _ _ us hl => match us, hl with | [_], _ => rfl
  have F_drawer := fun_mk (st := sDrawer) l_drawer c_drawer k_drawer
  have b_drawer := F_drawer.binds (ps := ["asking", "key", "taken"]) fun _ _ _ _ _ _ us hl => match us, hl with | [_, _, _], _ => rfl
  have F_find := fun_mk (st := sFind) l_find c_find k_find
  have b_find := F_find.binds (ps := ["asking", "keys"]) fun _ _ _ _ _ _ us hl => match us, hl with | [_, _], _ => rfl
  have F_put := fun_mk (st := sPut) l_put c_put k_put
  have b_put := F_put.binds (ps := ["asking", "slot", "keys", "data"]) fun _ _ _ _ _ _ us hl => match us, hl with | [_, _, _, _], _ => rfl
  have F_get := fun_mk (st := sGet) l_get c_get k_get
  have b_get := F_get.binds (ps := ["asking", "slot", "keys"]) fun _ _ _ _ _ _ us hl => match us, hl with | [_, _, _], _ => rfl
  have F_drop := fun_mk (st := sDrop) l_drop c_drop k_drop
  have b_drop := F_drop.binds (ps := ["asking", "slot", "keys"]) fun _ _ _ _ _ _ us hl => match us, hl with | [_, _, _], _ => rfl
  have F_da := fun_mk (st := sDAnswer) l_da c_da k_da
  have b_da := F_da.binds (ps := ["call", "reader", "pages"]) fun _ _ _ _ _ _ us hl => match us, hl with | [_, _, _], _ => rfl
  have F_next := fun_mk (st := sNext) l_next c_next k_next
  have b_next := F_next.binds (ps := ["reader", "pages"]) fun _ _ _ _ _ _ us hl => match us, hl with | [_, _], _ => rfl
  have F_ans := fun_mk (st := sAnswers) l_ans c_ans k_ans
  have b_ans := F_ans.binds (ps := ["calls"]) fun _ _ _ _ _ _ us hl => match us, hl with | [_], _ => rfl
  refine ⟨PySem.W.fnOf "answers" "answers" (defArgs sAnswers) (defBody sAnswers) (defScope sAnswers) .none kV_ans dc_ans pm_ans an_ans cd_ans ct_ans, fun s us hu => match us, hu with | [_], _ => .of_eq rfl, fun base _ _ => ?_⟩
  have X_placeOf : Def P w K mg base "place_of" 1 ["key", "j"] (spPlaceOf K) := ⟨_, _, ok_placeOf (base := base) F_placeOf T, PySem.W.mg_of X G a_placeOf, k_placeOf, b_placeOf⟩
  have X_padOf : Def P w K mg base "pad_of" 1 ["key", "salt"] (spPadOf K) := ⟨_, _, ok_padOf (base := base) F_padOf T, PySem.W.mg_of X G a_padOf, k_padOf, b_padOf⟩
  have X_under : Def P w K mg base "under_pad" 1 ["row", "pad"] (spUnder K) := ⟨_, _, ok_under (base := base) F_under T, PySem.W.mg_of X G a_under, k_under, b_under⟩
  have X_keysOf : Def P w K mg base "keys_of" 1 ["row"] (spKeysOf K) := ⟨_, _, ok_keysOf (base := base) F_keysOf T, PySem.W.mg_of X G a_keysOf, k_keysOf, b_keysOf⟩
  have X_refd : Def P w K mg base "is_refused" 1 ["slot", "keys"] (spRefused K) := ⟨_, _, ok_refused (base := base) F_refd T, PySem.W.mg_of X G a_refd, k_refd, b_refd⟩
  have X_pInit : Ini P w K mg base CP 1 ["self"] (spPInit CP) := ⟨_, _, ok_pInit (base := base) F_pInit T, ⟨mkCP, a_pInit, i_pInit, kcCP⟩, b_pInit⟩
  have X_fill : Mth P w K mg base CP "fill" 1 ["self", "seed"] (spFill CP) := ⟨_, _, ok_fill (base := base) F_fill T, ⟨a_fill, i_fill, k_fill⟩, b_fill⟩
  have X_store : Mth P w K mg base CP "store" 1 ["self", "place", "content"] (spStore K CP) := ⟨_, _, ok_store (base := base) F_store T, ⟨a_store, i_store, k_store⟩, b_store⟩
  have X_show_ : Mth P w K mg base CP "show" 1 ["self", "place"] (spShow CP) := ⟨_, _, ok_show (base := base) F_show_ T, ⟨a_show_, i_show_, k_show_⟩, b_show_⟩
  have X_rInit : Ini P w K mg base CR 1 ["self", "numbers"] (spRInit CR) := ⟨_, _, ok_rInit (base := base) F_rInit T, ⟨mkCR, a_rInit, i_rInit, kcCR⟩, b_rInit⟩
  have X_more : Mth P w K mg base CR "has_more" 1 ["self"] (spMore K CR) := ⟨_, _, ok_more (base := base) F_more T, ⟨a_more, i_more, k_more⟩, b_more⟩
  have X_number : Mth P w K mg base CR "number" 1 ["self"] (spNumber K CR) := ⟨_, _, ok_number (base := base) F_number T, ⟨a_number, i_number, k_number⟩, b_number⟩
  have X_row : Mth P w K mg base CR "row" 2 ["self"] (spRow K CR) := ⟨_, _, ok_row (base := base) F_row T X_number, ⟨a_row, i_row, k_row⟩, b_row⟩
  have X_aInit : Ini P w K mg base CA 1 ["self", "pages", "script"] (spAInit CA) := ⟨_, _, ok_aInit (base := base) F_aInit T, ⟨mkCA, a_aInit, i_aInit, kcCA⟩, b_aInit⟩
  have X_read : Mth P w K mg base CA "read" 2 ["self", "place"] (spRead CP CA) := ⟨_, _, ok_read (base := base) F_read T X_show_, ⟨a_read, i_read, k_read⟩, b_read⟩
  have X_write : Mth P w K mg base CA "write" 2 ["self", "place", "content"] (spWrite CP CA) := ⟨_, _, ok_write (base := base) F_write T X_store, ⟨a_write, i_write, k_write⟩, b_write⟩
  have X_chance : Mth P w K mg base CA "chance" 1 ["self", "size"] (spChance CP CA) := ⟨_, _, ok_chance (base := base) F_chance T, ⟨a_chance, i_chance, k_chance⟩, b_chance⟩
  have X_place : Mth P w K mg base CA "place" 2 ["self", "key", "j"] (spPlace CP CA) := ⟨_, _, ok_place (base := base) F_place T X_placeOf, ⟨a_place, i_place, k_place⟩, b_place⟩
  have X_pad : Mth P w K mg base CA "pad" 2 ["self", "key", "salt"] (spPad CP CA) := ⟨_, _, ok_pad (base := base) F_pad T X_padOf, ⟨a_pad, i_pad, k_pad⟩, b_pad⟩
  have X_account : Mth P w K mg base CA "account" 1 ["self"] (spAccount CP CA) := ⟨_, _, ok_account (base := base) F_account T, ⟨a_account, i_account, k_account⟩, b_account⟩
  have X_drawer : Def P w K mg base "drawer_places" 3 ["asking", "key", "taken"] (spDrawer CP CA) := ⟨_, _, ok_drawer (base := base) F_drawer T X_place, PySem.W.mg_of X G a_drawer, k_drawer, b_drawer⟩
  have X_find : Def P w K mg base "find_places" 4 ["asking", "keys"] (spFind CP CA) := ⟨_, _, ok_find (base := base) F_find T X_drawer, PySem.W.mg_of X G a_find, k_find, b_find⟩
  have X_put : Def P w K mg base "put_data" 5 ["asking", "slot", "keys", "data"] (spPut CP CA) := ⟨_, _, ok_put (base := base) F_put T X_refd X_find X_under X_chance X_pad X_write, PySem.W.mg_of X G a_put, k_put, b_put⟩
  have X_get : Def P w K mg base "get_data" 5 ["asking", "slot", "keys"] (spGet CP CA) := ⟨_, _, ok_get (base := base) F_get T X_refd X_find X_under X_read X_pad, PySem.W.mg_of X G a_get, k_get, b_get⟩
  have X_drop : Def P w K mg base "drop_data" 5 ["asking", "slot", "keys"] (spDrop CP CA) := ⟨_, _, ok_drop (base := base) F_drop T X_refd X_find X_chance X_write, PySem.W.mg_of X G a_drop, k_drop, b_drop⟩
  have X_da : Def P w K mg base "drawer_answer" 6 ["call", "reader", "pages"] (spDA K CP CR) := ⟨_, _, ok_DA (base := base) F_da T X_number X_row X_keysOf X_aInit X_put X_get X_drop X_account, PySem.W.mg_of X G a_da, k_da, b_da⟩
  have X_next : Def P w K mg base "next_answer" 7 ["reader", "pages"] (spNext K CP CR) := ⟨_, _, ok_next (base := base) F_next T X_number X_fill X_show_ X_da, PySem.W.mg_of X G a_next, k_next, b_next⟩
  exact ok_ans (base := base) F_ans T X_pInit X_rInit X_more X_next
theorem ints_nats : ∀ (l : List Int), (∀ x, x ∈ l → 0 ≤ x) → Ks190Neutral.ints (Ks190Neutral.nats l) = l
  | [], _ => rfl
  | x :: r, h => by
    have hx : 0 ≤ x := h x (List.mem_cons_self ..)
    have ih := ints_nats r fun y hy => h y (List.mem_cons_of_mem _ hy)
    show Int.ofNat x.toNat :: Ks190Neutral.ints (Ks190Neutral.nats r) = x :: r
    rw [ih]
    congr 1
    show ((x.toNat : Nat) : Int) = x
    omega
end Hd
open PySem PySem.W PyProof.Rows
set_option maxRecDepth 100000 in
set_option maxHeartbeats 0 in
theorem PySem.Challenge.cw_hiddendrawers_s01_answers_holds : PySem.Challenge.rw_hiddendrawers_s01_answers.Holds := by
  w_on; k_headS; (case hw => exact ⟨[.list [.int 4, .int 0]], by decide +kernel, by decide +kernel⟩)
  k_fillS
  refine L2.walk_specK (r := PySem.Challenge.rw_hiddendrawers_s01_answers) (k := 8) (CX := L2.CX0) (ps := ["calls"]) (sp := Hd.spAns) (by decide +kernel) rfl rfl ⟨rfl, by decide, by decide⟩ (fun w h Y => PySem.W.kIn_of Y) ?F ?S (fun _ _ _ _ z => z)
  case F =>
    intro w mg fa h Y KX G hmg
    refine' Hd.all_mk KX G hmg ?gCA ?gCP ?gCR ?a_placeOf ?l_placeOf ?c_placeOf ?k_placeOf ?a_padOf ?l_padOf ?c_padOf ?k_padOf ?a_under ?l_under ?c_under ?k_under ?a_keysOf ?l_keysOf ?c_keysOf ?k_keysOf ?a_refd ?l_refd ?c_refd ?k_refd ?a_pInit ?i_pInit ?l_pInit ?c_pInit ?k_pInit ?a_fill ?i_fill ?l_fill ?c_fill ?k_fill ?a_store ?i_store ?l_store ?c_store ?k_store ?a_show_ ?i_show_ ?l_show_ ?c_show_ ?k_show_ ?a_rInit ?i_rInit ?l_rInit ?c_rInit ?k_rInit ?a_more ?i_more ?l_more ?c_more ?k_more ?a_number ?i_number ?l_number ?c_number ?k_number ?a_row ?i_row ?l_row ?c_row ?k_row ?a_aInit ?i_aInit ?l_aInit ?c_aInit ?k_aInit ?a_read ?i_read ?l_read ?c_read ?k_read ?a_write ?i_write ?l_write ?c_write ?k_write ?a_chance ?i_chance ?l_chance ?c_chance ?k_chance ?a_place ?i_place ?l_place ?c_place ?k_place ?a_pad ?i_pad ?l_pad ?c_pad ?k_pad ?a_account ?i_account ?l_account ?c_account ?k_account ?a_drawer ?l_drawer ?c_drawer ?k_drawer ?a_find ?l_find ?c_find ?k_find ?a_put ?l_put ?c_put ?k_put ?a_get ?l_get ?c_get ?k_get ?a_drop ?l_drop ?c_drop ?k_drop ?a_da ?l_da ?c_da ?k_da ?a_next ?l_next ?c_next ?k_next ?a_ans ?l_ans ?c_ans ?k_ans ?pgCA ?hdCA ?poCA ?saCA ?mkCA ?kcCA ?pgCP ?hdCP ?poCP ?saCP ?mkCP ?kcCP ?pgCR ?hdCR ?poCR ?saCR ?mkCR ?kcCR ?n_pages ?n_script ?n_things ?n_filling ?n_written ?n_numbers ?n_at ?v_PAGE_COUNT ?v_PAGE_BYTES ?v_KEY_BYTES ?v_KEYS_AT_MOST ?v_SLOT_COUNT ?v_SALT_BYTES ?v_MARK_BYTES ?v_PAD_BYTES ?v_FRESH ?v_PUT ?v_GET ?v_DROP ?z_len ?z_range ?z_zip ?z_any ?z_list
    (case gCA => k_is)
    (case gCP => k_is)
    (case gCR => k_is)
    (case a_placeOf => k_is)
    (case l_placeOf => k_is)
    (case c_placeOf => k_is)
    (case k_placeOf => k_is)
    (case a_padOf => k_is)
    (case l_padOf => k_is)
    (case c_padOf => k_is)
    (case k_padOf => k_is)
    (case a_under => k_is)
    (case l_under => k_is)
    (case c_under => k_is)
    (case k_under => k_is)
    (case a_keysOf => k_is)
    (case l_keysOf => k_is)
    (case c_keysOf => k_is)
    (case k_keysOf => k_is)
    (case a_refd => k_is)
    (case l_refd => k_is)
    (case c_refd => k_is)
    (case k_refd => k_is)
    (case a_pInit => k_is)
    (case i_pInit => k_is)
    (case l_pInit => k_is)
    (case c_pInit => k_is)
    (case k_pInit => k_is)
    (case a_fill => k_is)
    (case i_fill => k_is)
    (case l_fill => k_is)
    (case c_fill => k_is)
    (case k_fill => k_is)
    (case a_store => k_is)
    (case i_store => k_is)
    (case l_store => k_is)
    (case c_store => k_is)
    (case k_store => k_is)
    (case a_show_ => k_is)
    (case i_show_ => k_is)
    (case l_show_ => k_is)
    (case c_show_ => k_is)
    (case k_show_ => k_is)
    (case a_rInit => k_is)
    (case i_rInit => k_is)
    (case l_rInit => k_is)
    (case c_rInit => k_is)
    (case k_rInit => k_is)
    (case a_more => k_is)
    (case i_more => k_is)
    (case l_more => k_is)
    (case c_more => k_is)
    (case k_more => k_is)
    (case a_number => k_is)
    (case i_number => k_is)
    (case l_number => k_is)
    (case c_number => k_is)
    (case k_number => k_is)
    (case a_row => k_is)
    (case i_row => k_is)
    (case l_row => k_is)
    (case c_row => k_is)
    (case k_row => k_is)
    (case a_aInit => k_is)
    (case i_aInit => k_is)
    (case l_aInit => k_is)
    (case c_aInit => k_is)
    (case k_aInit => k_is)
    (case a_read => k_is)
    (case i_read => k_is)
    (case l_read => k_is)
    (case c_read => k_is)
    (case k_read => k_is)
    (case a_write => k_is)
    (case i_write => k_is)
    (case l_write => k_is)
    (case c_write => k_is)
    (case k_write => k_is)
    (case a_chance => k_is)
    (case i_chance => k_is)
    (case l_chance => k_is)
    (case c_chance => k_is)
    (case k_chance => k_is)
    (case a_place => k_is)
    (case i_place => k_is)
    (case l_place => k_is)
    (case c_place => k_is)
    (case k_place => k_is)
    (case a_pad => k_is)
    (case i_pad => k_is)
    (case l_pad => k_is)
    (case c_pad => k_is)
    (case k_pad => k_is)
    (case a_account => k_is)
    (case i_account => k_is)
    (case l_account => k_is)
    (case c_account => k_is)
    (case k_account => k_is)
    (case a_drawer => k_is)
    (case l_drawer => k_is)
    (case c_drawer => k_is)
    (case k_drawer => k_is)
    (case a_find => k_is)
    (case l_find => k_is)
    (case c_find => k_is)
    (case k_find => k_is)
    (case a_put => k_is)
    (case l_put => k_is)
    (case c_put => k_is)
    (case k_put => k_is)
    (case a_get => k_is)
    (case l_get => k_is)
    (case c_get => k_is)
    (case k_get => k_is)
    (case a_drop => k_is)
    (case l_drop => k_is)
    (case c_drop => k_is)
    (case k_drop => k_is)
    (case a_da => k_is)
    (case l_da => k_is)
    (case c_da => k_is)
    (case k_da => k_is)
    (case a_next => k_is)
    (case l_next => k_is)
    (case c_next => k_is)
    (case k_next => k_is)
    (case a_ans => k_is)
    (case l_ans => k_is)
    (case c_ans => k_is)
    (case k_ans => k_is)
    (case pgCA => k_is)
    (case hdCA => k_is)
    (case poCA => k_is)
    (case saCA => k_is)
    (case mkCA => k_is)
    (case kcCA => k_is)
    (case pgCP => k_is)
    (case hdCP => k_is)
    (case poCP => k_is)
    (case saCP => k_is)
    (case mkCP => k_is)
    (case kcCP => k_is)
    (case pgCR => k_is)
    (case hdCR => k_is)
    (case poCR => k_is)
    (case saCR => k_is)
    (case mkCR => k_is)
    (case kcCR => k_is)
    (case n_pages => k_is)
    (case n_script => k_is)
    (case n_things => k_is)
    (case n_filling => k_is)
    (case n_written => k_is)
    (case n_numbers => k_is)
    (case n_at => k_is)
    (case v_PAGE_COUNT => k_is)
    (case v_PAGE_BYTES => k_is)
    (case v_KEY_BYTES => k_is)
    (case v_KEYS_AT_MOST => k_is)
    (case v_SLOT_COUNT => k_is)
    (case v_SALT_BYTES => k_is)
    (case v_MARK_BYTES => k_is)
    (case v_PAD_BYTES => k_is)
    (case v_FRESH => k_is)
    (case v_PUT => k_is)
    (case v_GET => k_is)
    (case v_DROP => k_is)
    (case z_len => k_is)
    (case z_range => k_is)
    (case z_zip => k_is)
    (case z_any => k_is)
    (case z_list => k_is)
  case S =>
    intro K H xs a hO hwi hask hx
    cases hx with
    | cons h1 h2 =>
      cases h2
      cases h1 with
      | lst hs ha =>
        have e := L2.ints_dw a.1 _ ha
        subst e
        have q : ((Codec.inLen 0 30000 a.1 && a.1.all (Codec.inInt 0 4294967295)) && true) = true := hwi
        rw [Bool.and_eq_true, Bool.and_eq_true] at q
        have hpos : ∀ x, x ∈ a.1 → 0 ≤ x := fun x hm => by
          have z := List.all_eq_true.mp q.1.2 x hm
          exact (Codec.inInt_iff.mp z).1
        have en := Hd.ints_nats a.1 hpos
        have hl := (Codec.inNat_iff.mp q.1.1).2
        have hask2 : PyKs190.answers_asked a.1 = true := hask
        refine ⟨_, Ks190Neutral.nats a.1, rfl, ?_, ?_, ?_, fun H' p hp => ?_⟩
        · rw [Hd.vI_ints, en]
          exact hs
        · show (a.1.map Int.toNat).length ≤ 30000
          rw [List.length_map]
          exact hl
        · rw [en]
          exact hask2
        · rw [en] at hp
          exact .lst (L2.SqL.of hp) (L2.dw_ints _)
#print axioms PySem.Challenge.cw_hiddendrawers_s01_answers_holds
