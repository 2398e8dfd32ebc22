import PyProof.Rows.All
import Wide.All
import OpenK.AllK
import Wide.FinOn
import Open.SpecLaws
import KE.OsGo
import KE.BitLaws
import HandS.ForSpec
import HandS.Text
import PySem.Challenge.RW_uncutline_s01_answers
set_option Elab.async false
namespace Um
open Kge2

/-! ### lists -/
theorem take_more {α : Type} : ∀ {l : List α} {i : Nat} {x : α}, l[i]? = some x → l.take (i + 1) = l.take i ++ [x]
  | [], i, x, h => by simp at h
  | a :: l, 0, x, h => by
    have e : a = x := Option.some.inj h
    subst e
    rfl
  | a :: l, i + 1, x, h => by
    have ih := take_more (l := l) (i := i) (x := x) h
    show a :: l.take (i + 1) = a :: l.take i ++ [x]
    rw [ih]
    rfl
theorem drop_more {α : Type} : ∀ {l : List α} {i : Nat} {x : α}, l[i]? = some x → l.drop i = x :: l.drop (i + 1)
  | [], i, x, h => by simp at h
  | a :: l, 0, x, h => by
    have e : a = x := Option.some.inj h
    subst e
    rfl
  | a :: l, i + 1, x, h => drop_more (l := l) (i := i) (x := x) h
theorem getD_of {l : List Nat} {i x : Nat} (h : l[i]? = some x) : l.getD i 0 = x := by
  rw [List.getD_eq_getElem?_getD, h]
  rfl
theorem get_lt {α : Type} {l : List α} {i : Nat} (h : i < l.length) : ∃ x, l[i]? = some x := ⟨l[i], List.getElem?_eq_getElem h⟩

/-! ### the check -/
def it (c : Nat) : Nat → Nat
  | 0 => c
  | k + 1 => crcBit (it c k)
def crcS (c x : Nat) : Nat := it (c ^^^ x) 8
def crcF (b : Bytes) : Nat := b.foldl crcS 0xFFFFFFFF
theorem crc_is (b : Bytes) : crc b = crcF b ^^^ 0xFFFFFFFF := by
  unfold crc crcF
  have e : (fun c x => ((List.range 8).foldl (fun (z : Nat) (_ : Nat) => crcBit z) (c ^^^ x))) = crcS := by
    funext c x
    rfl
  rw [e]
theorem crcF_more {b : Bytes} {i x : Nat} (h : b[i]? = some x) : crcF (b.take (i + 1)) = crcS (crcF (b.take i)) x := by
  unfold crcF
  rw [take_more h, List.foldl_append]
  rfl
theorem crcBit_odd {c : Nat} (h : c % 2 = 1) : crcBit c = (c / 2) ^^^ 0x82F63B78 := by
  unfold crcBit
  rw [if_pos h]
theorem crcBit_even {c : Nat} (h : ¬ c % 2 = 1) : crcBit c = c / 2 := by
  unfold crcBit
  rw [if_neg h]

/-! ### little ends -/
theorem le_len : ∀ (k n : Nat), (le n k).length = k
  | 0, _ => rfl
  | k + 1, n => by
    show (le (n / 256) k).length + 1 = k + 1
    rw [le_len k]
theorem le_more : ∀ (k n : Nat), le n (k + 1) = le n k ++ [n / 256 ^ k % 256]
  | 0, n => by
    show [n % 256] = [] ++ [n / 256 ^ 0 % 256]
    simp
  | k + 1, n => by
    show n % 256 :: le (n / 256) (k + 1) = n % 256 :: le (n / 256) k ++ [n / 256 ^ (k + 1) % 256]
    rw [le_more k (n / 256), Nat.div_div_eq_div_mul, Nat.pow_succ, Nat.mul_comm (256 ^ k) 256]
    rfl
theorem div_more (n k : Nat) : n / 256 ^ k / 256 = n / 256 ^ (k + 1) := by
  rw [Nat.div_div_eq_div_mul, Nat.pow_succ]
theorem number_more : ∀ (l : Bytes) (x : Nat), number (l ++ [x]) = number l + x * 256 ^ l.length
  | [], x => by
    show x + 256 * 0 = 0 + x * 256 ^ 0
    simp
  | a :: l, x => by
    show a + 256 * number (l ++ [x]) = a + 256 * number l + x * 256 ^ (l.length + 1)
    rw [number_more l x, Nat.pow_succ, Nat.mul_add, Nat.add_assoc]
    congr 2
    rw [← Nat.mul_assoc, Nat.mul_comm 256 x, Nat.mul_assoc, Nat.mul_comm 256]
theorem part_zero (b : Bytes) (p : Nat) : part b p 0 = 0 := by
  unfold part
  rfl
theorem part_more {b : Bytes} {p k x : Nat} (h : b[p + k]? = some x) : part b p (k + 1) = part b p k + x * 256 ^ k := by
  unfold part
  have h1 : (b.drop p)[k]? = some x := by rw [List.getElem?_drop]; exact h
  rw [take_more h1, number_more]
  have hl : ((b.drop p).take k).length = k := by
    have := (List.getElem?_eq_some_iff.mp h1).1
    rw [List.length_take]
    omega
  rw [hl]
theorem pow256 (k : Nat) : (256 : Nat) ^ k = 2 ^ (8 * k) := by
  rw [Nat.pow_mul]

/-! ### messages -/
def head (from_ to_ n got first : Nat) : Bytes := [from_, to_, n, 0] ++ le got 4 ++ le first 4
theorem body_is (m : Msg) : body m = head m.from_ m.to_ m.items.length m.got m.first ++ m.items.flatMap itemBytes := rfl
theorem head_len (a b c d e : Nat) : (head a b c d e).length = 12 := by
  unfold head
  simp [le_len]
theorem itemBytes_len (x : Item) : (itemBytes x).length = 13 := by
  unfold itemBytes
  simp [le_len]
theorem items_len : ∀ (l : List Item), (l.flatMap itemBytes).length = 13 * l.length
  | [] => rfl
  | x :: l => by
    rw [List.flatMap_cons, List.length_append, itemBytes_len, items_len l, List.length_cons]
    omega
theorem body_len (m : Msg) : (body m).length = 12 + 13 * m.items.length := by
  rw [body_is, List.length_append, head_len, items_len]
theorem written_len (m : Msg) : (written m).length = 16 + 13 * m.items.length := by
  unfold written
  rw [List.length_append, body_len, le_len]
  omega
theorem items_more {l : List Item} {i : Nat} {x : Item} (h : l[i]? = some x) : (l.take (i + 1)).flatMap itemBytes = (l.take i).flatMap itemBytes ++ itemBytes x := by
  rw [take_more h, List.flatMap_append]
  simp

/-! ### what is offered -/
def offer (got left n : Nat) : List Item → List Ev × Nat
  | [] => ([], got)
  | x :: l => if n = got + 1 then (if left = 0 then ([.got x false], got) else (.got x true :: (offer (got + 1) (left - 1) (n + 1) l).1, (offer (got + 1) (left - 1) (n + 1) l).2)) else offer got left (n + 1) l
theorem offer_skip {got left n : Nat} {x : Item} {l : List Item} (h : ¬ n = got + 1) : offer got left n (x :: l) = offer got left (n + 1) l := by
  show (if n = got + 1 then _ else _) = _
  rw [if_neg h]
theorem offer_no {got n : Nat} {x : Item} {l : List Item} (h : n = got + 1) : offer got 0 n (x :: l) = ([.got x false], got) := by
  show (if n = got + 1 then _ else _) = _
  rw [if_pos h, if_pos rfl]
theorem offer_yes {got left n : Nat} {x : Item} {l : List Item} (h : n = got + 1) (hl : ¬ left = 0) :
    offer got left n (x :: l) = (.got x true :: (offer (got + 1) (left - 1) (n + 1) l).1, (offer (got + 1) (left - 1) (n + 1) l).2) := by
  show (if n = got + 1 then _ else _) = _
  rw [if_pos h, if_neg hl]
theorem offer_far : ∀ (l : List Item) (got left n : Nat), got + 1 < n → offer got left n l = ([], got)
  | [], _, _, _, _ => rfl
  | x :: l, got, left, n, h => by
    rw [offer_skip (by omega)]
    exact offer_far l got left (n + 1) (by omega)
theorem offer_at : ∀ (l : List Item) (got left : Nat), offer got left (got + 1) l = ((Kge2Neutral.gets left l).1, got + (Kge2Neutral.gets left l).2)
  | [], got, left => by
    cases left <;> rfl
  | x :: l, got, 0 => by
    rw [offer_no rfl]
    rfl
  | x :: l, got, left + 1 => by
    rw [offer_yes rfl (by omega), Nat.add_sub_cancel, offer_at l (got + 1) left]
    show (Ev.got x true :: (Kge2Neutral.gets left l).1, got + 1 + (Kge2Neutral.gets left l).2) = (Ev.got x true :: (Kge2Neutral.gets left l).1, got + ((Kge2Neutral.gets left l).2 + 1))
    congr 1
    omega
theorem offer_is : ∀ (l : List Item) (got left n : Nat), n ≤ got + 1 → offer got left n l = ((Kge2Neutral.gets left (l.drop (got + 1 - n))).1, got + (Kge2Neutral.gets left (l.drop (got + 1 - n))).2)
  | [], got, left, n, h => by
    rw [List.drop_nil]
    cases left <;> rfl
  | x :: l, got, left, n, h => by
    by_cases e : n = got + 1
    · subst e
      rw [Nat.sub_self, List.drop_zero]
      exact offer_at (x :: l) got left
    · rw [offer_skip e, offer_is l got left (n + 1) (by omega)]
      have e2 : got + 1 - n = (got + 1 - (n + 1)) + 1 := by omega
      rw [e2, List.drop_succ_cons]
theorem gets_nil (k : Nat) : Kge2Neutral.gets k [] = ([], 0) := by
  cases k <;> rfl
/-- what the loop offers is what the specification says -/
theorem offer_spec (a : Abs) (m : Msg) (k : Nat) : offer a.got k m.first m.items = ((Kge2Neutral.gets k (fresh a m)).1, a.got + (Kge2Neutral.gets k (fresh a m)).2) := by
  unfold fresh
  by_cases h : m.first ≤ a.got + 1
  · rw [if_pos h]
    exact offer_is m.items a.got k m.first h
  · rw [if_neg h, gets_nil]
    exact offer_far m.items a.got k m.first (by omega)

/-! ### reading -/
def okB (b : Bytes) : Bool := (read b).isSome
def itemOf (b : Bytes) (j : Nat) : Item := ⟨b.getD (12 + 13 * j) 0, part b (13 + 13 * j) 4, part b (17 + 13 * j) 8⟩
def msgOf (b : Bytes) : Msg := ⟨b.getD 0 0, b.getD 1 0, part b 4 4, part b 8 4, (List.range (b.getD 2 0)).map (itemOf b)⟩
def Bad (b : Bytes) : Prop := b.length < 16 ∨ 16 < b.getD 2 0 ∨ b.length ≠ 16 + 13 * b.getD 2 0 ∨ b.getD 3 0 ≠ 0 ∨ (b.getD 2 0 == 0) ≠ (part b 8 4 == 0) ∨ part b (b.length - 4) 4 ≠ crc (b.take (b.length - 4))
instance (b : Bytes) : Decidable (Bad b) := by unfold Bad; infer_instance
theorem read_is (b : Bytes) : read b = if Bad b then none else some (msgOf b) := by
  unfold Kge2.read Bad msgOf
  rfl
theorem read_bad {b : Bytes} (h : Bad b) : read b = none := by rw [read_is, if_pos h]
theorem read_good {b : Bytes} (h : ¬ Bad b) : read b = some (msgOf b) := by rw [read_is, if_neg h]
theorem okB_bad {b : Bytes} (h : Bad b) : okB b = false := by
  unfold okB
  rw [read_bad h]
  rfl
theorem okB_good {b : Bytes} (h : ¬ Bad b) : okB b = true := by
  unfold okB
  rw [read_good h]
  rfl
theorem okB_true {b : Bytes} (h : okB b = true) : ¬ Bad b := fun x => by
  rw [okB_bad x] at h
  cases h
theorem good_len {b : Bytes} (h : ¬ Bad b) : b.length = 16 + 13 * b.getD 2 0 ∧ b.getD 2 0 ≤ 16 := by
  unfold Bad at h
  omega
theorem msgOf_item {b : Bytes} {j : Nat} (h : j < b.getD 2 0) : (msgOf b).items[j]? = some (itemOf b j) := by
  show ((List.range (b.getD 2 0)).map (itemOf b))[j]? = _
  rw [List.getElem?_map, List.getElem?_range h]
  rfl
theorem msgOf_len (b : Bytes) : (msgOf b).items.length = b.getD 2 0 := by
  show ((List.range (b.getD 2 0)).map (itemOf b)).length = _
  rw [List.length_map, List.length_range]
end Um

set_option Elab.async false
namespace Um
open Kge2
/-! ### the calls, one behind another -/
theorem row_some {r x t : List Int} (h : PyFlat.row r = some (x, t)) : r = (x.length : Int) :: (x ++ t) := by
  cases r with
  | nil => cases h
  | cons n r =>
    have h' : (if 0 ≤ n ∧ n.toNat ≤ r.length then some (r.take n.toNat, r.drop n.toNat) else none) = some (x, t) := h
    by_cases c : 0 ≤ n ∧ n.toNat ≤ r.length
    · rw [if_pos c] at h'
      have e := Option.some.inj h'
      have e1 : r.take n.toNat = x := congrArg Prod.fst e
      have e2 : r.drop n.toNat = t := congrArg Prod.snd e
      have e3 : x.length = n.toNat := by
        rw [← e1, List.length_take]
        omega
      rw [e3, ← e1, ← e2, List.take_append_drop]
      congr 1
      omega
    · rw [if_neg c] at h'
      cases h'
inductive CallAt : List Int → List (List Int) → List Int → Prop
  | start (x y : Int) (t : List Int) : CallAt (0 :: x :: y :: t) [[0, x, y]] t
  | send (k a b : Int) (t : List Int) : CallAt (1 :: k :: a :: b :: t) [[1, k, a, b]] t
  | heard (k : Int) (m t : List Int) : CallAt (2 :: k :: (m.length : Int) :: (m ++ t)) [[2, k], m] t
  | tick (t : List Int) : CallAt (3 :: t) [[3]] t
  | look (t : List Int) : CallAt (4 :: t) [[4]] t
theorem call_at {r : List Int} {c : List (List Int)} {t : List Int} (h : PyFlat.call PyKge2.shape r = some (c, t)) : CallAt r c t := by
  cases r with
  | nil => cases h
  | cons p r =>
    unfold PyFlat.call at h
    unfold PyKge2.shape at h
    by_cases p0 : p = 0
    · subst p0
      match r, h with
      | [], h => simp at h
      | [_], h => simp at h
      | x :: y :: t', h =>
        simp [PyFlat.rows] at h
        obtain ⟨rfl, rfl⟩ := h
        exact .start x y t'
    by_cases p1 : p = 1
    · subst p1
      match r, h with
      | [], h => simp at h
      | [_], h => simp at h
      | [_, _], h => simp at h
      | x :: y :: z :: t', h =>
        simp [PyFlat.rows] at h
        obtain ⟨rfl, rfl⟩ := h
        exact .send x y z t'
    by_cases p2 : p = 2
    · subst p2
      match r, h with
      | [], h => simp at h
      | k :: r', h =>
        simp [PyFlat.rows] at h
        cases e : PyFlat.row r' with
        | none =>
          rw [e] at h
          simp at h
        | some q =>
          obtain ⟨m, t'⟩ := q
          rw [e] at h
          simp at h
          obtain ⟨rfl, rfl⟩ := h
          rw [row_some e]
          exact .heard k m t'
    by_cases p3 : p = 3
    · subst p3
      simp [PyFlat.rows] at h
      obtain ⟨rfl, rfl⟩ := h
      exact .tick r
    by_cases p4 : p = 4
    · subst p4
      simp [PyFlat.rows] at h
      obtain ⟨rfl, rfl⟩ := h
      exact .look r
    · simp [p0, p1, p2, p3, p4] at h
theorem CallAt.whole {r : List Int} {c : List (List Int)} {t : List Int} (h : CallAt r c t) : PyKge2.whole c = c := by
  cases h <;> rfl
theorem CallAt.len {r : List Int} {c : List (List Int)} {t : List Int} (h : CallAt r c t) : t.length < r.length := by
  cases h <;> simp <;> omega
/-- the calls from a list on -/
theorem calls_cases {f : Nat} {r : List Int} {cs : List (List (List Int))} (h : PyFlat.calls PyKge2.shape f r = some cs) :
    (r = [] ∧ cs = []) ∨ ∃ f' c t cs', CallAt r c t ∧ PyFlat.calls PyKge2.shape f' t = some cs' ∧ cs = c :: cs' := by
  match f, r, h with
  | f0, [], h =>
    left
    have e : PyFlat.calls PyKge2.shape f0 [] = some [] := by
      cases f0 <;> rfl
    rw [e] at h
    exact ⟨rfl, (Option.some.inj h).symm⟩
  | 0, _ :: _, h => cases h
  | f' + 1, p :: r', h =>
    right
    have h' : (match PyFlat.call PyKge2.shape (p :: r') with
      | none => none
      | some (c, t) => match PyFlat.calls PyKge2.shape f' t with
        | none => none
        | some cs => some (c :: cs)) = some cs := h
    cases e : PyFlat.call PyKge2.shape (p :: r') with
    | none =>
      rw [e] at h'
      cases h'
    | some q =>
      obtain ⟨c, t⟩ := q
      rw [e] at h'
      cases e2 : PyFlat.calls PyKge2.shape f' t with
      | none =>
        simp only [e2] at h'
        cases h'
      | some cs' =>
        simp only [e2] at h'
        exact ⟨f', c, t, cs', call_at e, e2, (Option.some.inj h').symm⟩
/-! ### what is known of a call that may be handed in -/
def cast (m : List Nat) : List Int := m.map fun (x : Nat) => (x : Int)
inductive CallN : List Int → List (List Int) → List Int → Prop
  | start (x y : Nat) (t : List Int) : CallN (0 :: (x : Int) :: (y : Int) :: t) [[0, (x : Int), (y : Int)]] t
  | send (k a b : Nat) (t : List Int) : CallN (1 :: (k : Int) :: (a : Int) :: (b : Int) :: t) [[1, (k : Int), (a : Int), (b : Int)]] t
  | heard (k : Nat) (m : List Nat) (t : List Int) (h : ∀ x ∈ m, x < 256) (hl : m.length ≤ 500) : CallN (2 :: (k : Int) :: (m.length : Int) :: (cast m ++ t)) [[2, (k : Int)], cast m] t
  | tick (t : List Int) : CallN (3 :: t) [[3]] t
  | look (t : List Int) : CallN (4 :: t) [[4]] t
theorem nat_of {z lo hi : Int} (h0 : 0 ≤ lo) (h : PyInside.within lo hi z = true) : ∃ n : Nat, z = (n : Int) ∧ (n : Int) ≤ hi := by
  unfold PyInside.within at h
  rw [Bool.and_eq_true, decide_eq_true_eq, decide_eq_true_eq] at h
  exact ⟨z.toNat, by omega, by omega⟩
theorem nats_of : ∀ {l : List Int} {hi : Int}, l.all (PyInside.within 0 hi) = true → ∃ m : List Nat, l = m.map (fun (x : Nat) => (x : Int)) ∧ ∀ x ∈ m, (x : Int) ≤ hi
  | [], _, _ => ⟨[], rfl, fun _ h => nomatch h⟩
  | z :: l, hi, h => by
    rw [List.all_cons, Bool.and_eq_true] at h
    obtain ⟨n, rfl, hn⟩ := nat_of (Int.le_refl 0) h.1
    obtain ⟨m, rfl, hm⟩ := nats_of h.2
    refine ⟨n :: m, rfl, fun x hx => ?_⟩
    cases hx with
    | head => exact hn
    | tail _ hx => exact hm x hx
theorem calln_of {r : List Int} {c : List (List Int)} {t : List Int} (h : CallAt r c t) (hb : PyInside.call PyKge2.bound c = true) : CallN r c t := by
  cases h with
  | start x y t =>
    have q : ((PyInside.within 0 4294967295 x && (PyInside.within 0 4294967295 y && true)) && true) = true := hb
    simp only [Bool.and_true, Bool.and_eq_true] at q
    obtain ⟨x, rfl, _⟩ := nat_of (Int.le_refl 0) q.1
    obtain ⟨y, rfl, _⟩ := nat_of (Int.le_refl 0) q.2
    exact .start x y t
  | send k a b t =>
    have q : ((PyInside.within 0 4294967295 k && (PyInside.within 0 4294967295 a && (PyInside.within 0 18446744073709551615 b && true))) && true) = true := hb
    simp only [Bool.and_true, Bool.and_eq_true] at q
    obtain ⟨k, rfl, _⟩ := nat_of (Int.le_refl 0) q.1
    obtain ⟨a, rfl, _⟩ := nat_of (Int.le_refl 0) q.2.1
    obtain ⟨b, rfl, _⟩ := nat_of (Int.le_refl 0) q.2.2
    exact .send k a b t
  | heard k m t =>
    have q : ((PyInside.within 0 4294967295 k && true) && (decide (0 ≤ m.length) && decide (m.length ≤ 500) && m.all (PyInside.within 0 255) && true)) = true := hb
    simp only [Bool.and_true, Bool.and_eq_true, decide_eq_true_eq] at q
    obtain ⟨k, rfl, _⟩ := nat_of (Int.le_refl 0) q.1
    obtain ⟨m, rfl, hm⟩ := nats_of q.2.2
    rw [List.length_map]
    refine .heard k m t (fun x hx => ?_) ?_
    · have := hm x hx
      omega
    · have := q.2.1.2
      rw [List.length_map] at this
      exact this
  | tick t => exact .tick t
  | look t => exact .look t
end Um

set_option Elab.async false
namespace Um
open Kge2
open Kge2Neutral (step told gets)
theorem natsOf_cast : ∀ (m : List Nat), Kge2Neutral.natsOf (m.map fun (x : Nat) => (x : Int)) = m
  | [] => rfl
  | x :: m => by
    show (x : Int).toNat :: Kge2Neutral.natsOf (m.map fun (x : Nat) => (x : Int)) = x :: m
    rw [natsOf_cast m, Int.toNat_natCast]
def fin (s : Kge2Neutral.S) (r : Option (List Ev × Option Abs × Ans)) : Kge2Neutral.S × List Int := match r with
  | none => (s, [])
  | some (q, t, a) => (t, a.value :: (q.length : Int) :: (q.flatMap told ++ Kge2Neutral.ints a.out))
theorem step_fin (s : Kge2Neutral.S) (c : List (List Int)) : step s c = fin s ((Kge2Neutral.callOf c).bind fun x => Kge2Neutral.act s x.1 x.2) := by
  unfold step fin
  rfl
theorem fin_say (s t : Kge2Neutral.S) (q : List Ev) (v : Int) : fin s (some (q, t, say v)) = (t, v :: (q.length : Int) :: q.flatMap told) := by
  show (t, v :: (q.length : Int) :: (q.flatMap told ++ [])) = _
  rw [List.append_nil]
theorem step_start (s : Kge2Neutral.S) (x y : Nat) : step s [[0, (x : Int), (y : Int)]] = if 255 < x ∨ 255 < y ∨ x = y then (s, [-22, 0]) else (some { me := x, other := y }, [0, 0]) := by
  rw [step_fin]
  show fin s (Kge2Neutral.act s (.start (x : Int).toNat (y : Int).toNat) 0) = _
  rw [Int.toNat_natCast, Int.toNat_natCast]
  show fin s (some (if 255 < x ∨ 255 < y ∨ x = y then ([], s, say (-22)) else ([], some { me := x, other := y }, say 0))) = _
  by_cases h : 255 < x ∨ 255 < y ∨ x = y
  · rw [if_pos h, if_pos h, fin_say]
    rfl
  · rw [if_neg h, if_neg h, fin_say]
    rfl
def sentA (a : Abs) (x : Item) : Abs := { a with waiting := a.waiting ++ [x], sent := a.sent + 1 }
theorem step_send (a : Abs) (k x y : Nat) : step (some a) [[1, (k : Int), (x : Int), (y : Int)]] =
    if 255 < k then (some a, [-22, 0]) else if 64 ≤ a.waiting.length then (some a, [-11, 0]) else (some (sentA a ⟨k, x, y⟩), [0, 0]) := by
  rw [step_fin]
  show fin (some a) (Kge2Neutral.act (some a) (.send ⟨(k : Int).toNat, (x : Int).toNat, (y : Int).toNat⟩) 0) = _
  rw [Int.toNat_natCast, Int.toNat_natCast, Int.toNat_natCast]
  show fin (some a) (some (if 255 < k then ([], some a, say (-22)) else if 64 ≤ a.waiting.length then ([], some a, say (-11)) else ([], some (sentA a ⟨k, x, y⟩), say 0))) = _
  by_cases h : 255 < k
  · rw [if_pos h, if_pos h, fin_say]
    rfl
  · rw [if_neg h, if_neg h]
    by_cases h2 : 64 ≤ a.waiting.length
    · rw [if_pos h2, if_pos h2, fin_say]
      rfl
    · rw [if_neg h2, if_neg h2, fin_say]
      rfl
def rightB (a : Abs) (m : Bytes) : Bool := okB m && isRight a (msgOf m)
def heardB (a : Abs) (m : Bytes) : Abs := acked a (msgOf m).got
def heardD (a : Abs) (m : Bytes) (k : Nat) : Abs := { heardB a m with got := (heardB a m).got + (gets k (fresh (heardB a m) (msgOf m))).2 }
def heardE (a : Abs) (m : Bytes) (k : Nat) : List Ev := (gets k (fresh (heardB a m) (msgOf m))).1 ++ (if (msgOf m).items.isEmpty then [] else [.net (bare (heardD a m k))])
def answer (q : List Ev) : List Int := 0 :: (q.length : Int) :: q.flatMap told
theorem step_heard (a : Abs) (k : Nat) (m : List Nat) : step (some a) [[2, (k : Int)], m.map fun (x : Nat) => (x : Int)] =
    if rightB a m = true then (some (heardD a m k), answer (heardE a m k)) else (some a, [-71, 0]) := by
  rw [step_fin]
  show fin (some a) (Kge2Neutral.act (some a) (.heard (Kge2Neutral.natsOf (m.map fun (x : Nat) => (x : Int)))) (k : Int).toNat) = _
  rw [natsOf_cast, Int.toNat_natCast]
  show fin (some a) (some (match Kge2.read m with
    | none => ([], some a, say (-71))
    | some x => if isRight a x = false then ([], some a, say (-71)) else
      ((gets k (fresh (acked a x.got) x)).1 ++ (if x.items.isEmpty then [] else [.net (bare { acked a x.got with got := (acked a x.got).got + (gets k (fresh (acked a x.got) x)).2 })]),
        some { acked a x.got with got := (acked a x.got).got + (gets k (fresh (acked a x.got) x)).2 }, say 0))) = _
  by_cases hb : Bad m
  · have : rightB a m = false := by
      unfold rightB
      rw [okB_bad hb]
      rfl
    rw [read_bad hb, this, if_neg (by decide)]
    show fin (some a) (some ([], some a, say (-71))) = _
    rw [fin_say]
    rfl
  · have hr : rightB a m = isRight a (msgOf m) := by
      unfold rightB
      rw [okB_good hb, Bool.true_and]
    rw [read_good hb, hr]
    show fin (some a) (some (if isRight a (msgOf m) = false then ([], some a, say (-71)) else (heardE a m k, some (heardD a m k), say 0))) = _
    cases hq : isRight a (msgOf m) with
    | false =>
      rw [if_pos rfl, if_neg (by decide), fin_say]
      rfl
    | true =>
      rw [if_neg (by decide), if_pos rfl, fin_say]
      rfl
theorem step_tick (a : Abs) : step (some a) [[3]] = (some a, answer (if a.waiting.isEmpty then [] else [.net (packet a)])) := by
  rw [step_fin]
  show fin (some a) (some (if a.waiting.isEmpty then [] else [.net (packet a)], some a, say 0)) = _
  rw [fin_say]
  rfl
theorem step_look (a : Abs) : step (some a) [[4]] = (some a, [0, 0, (a.waiting.length : Int), (a.sent : Int), (a.got : Int)]) := rfl
theorem step_none {r : List Int} {c : List (List Int)} {t : List Int} (h : CallN r c t) (hn : (step none c).2.isEmpty = false) : ∃ x y : Nat, c = [[0, (x : Int), (y : Int)]] := by
  cases h with
  | start x y => exact ⟨x, y, rfl⟩
  | send k a b => cases hn
  | heard k m _ _ => cases hn
  | tick => cases hn
  | look => cases hn
/-- what waits is of what was sent, and no more than 64 -/
structure Good (a : Abs) : Prop where
  few : a.waiting.length ≤ 64
  sent : a.waiting.length ≤ a.sent
theorem good_new (x y : Nat) : Good { me := x, other := y } := ⟨Nat.zero_le _, Nat.le_refl _⟩
theorem good_sent {a : Abs} (g : Good a) (x : Item) (h : ¬ 64 ≤ a.waiting.length) : Good (sentA a x) := by
  have := g.sent
  refine ⟨?_, ?_⟩
  · show (a.waiting ++ [x]).length ≤ 64
    rw [List.length_append, List.length_singleton]
    omega
  · show (a.waiting ++ [x]).length ≤ a.sent + 1
    rw [List.length_append, List.length_singleton]
    omega
theorem good_acked {a : Abs} (g : Good a) (n : Nat) : Good (acked a n) := by
  have h1 := g.few
  have h2 := g.sent
  unfold acked
  by_cases h : n ≤ a.sent
  · rw [if_pos h]
    refine ⟨?_, ?_⟩
    · show (a.waiting.drop _).length ≤ 64
      rw [List.length_drop]
      omega
    · show (a.waiting.drop _).length ≤ a.sent
      rw [List.length_drop]
      omega
  · rw [if_neg h]
    exact g
theorem good_got {a : Abs} (g : Good a) (n : Nat) : Good { a with got := n } := ⟨g.few, g.sent⟩
theorem acked_got (a : Abs) (n : Nat) : (acked a n).got = a.got := by
  unfold acked
  split <;> rfl
theorem acked_me (a : Abs) (n : Nat) : (acked a n).me = a.me := by
  unfold acked
  split <;> rfl
theorem acked_other (a : Abs) (n : Nat) : (acked a n).other = a.other := by
  unfold acked
  split <;> rfl
/-- only where it is new and was sent does the number change what waits -/
theorem acked_new {a : Abs} {n : Nat} (h : n ≤ a.sent) : acked a n = { a with waiting := a.waiting.drop (n - (a.sent - a.waiting.length)) } := by
  unfold acked
  rw [if_pos h]
theorem acked_old {a : Abs} {n : Nat} (h : ¬ (a.sent - a.waiting.length < n ∧ n ≤ a.sent)) : acked a n = a := by
  unfold acked
  by_cases c : n ≤ a.sent
  · rw [if_pos c]
    have : n - (a.sent - a.waiting.length) = 0 := by omega
    rw [this, List.drop_zero]
  · rw [if_neg c]
end Um

set_option Elab.async false
namespace Um
open Kge2
open Kge2Neutral (step may)
def clen (c : List (List Int)) : Nat := (c.map List.length).sum + (c.length - 1)
theorem clen_start (x y : Int) : clen [[0, x, y]] = 3 := rfl
theorem clen_send (x y z : Int) : clen [[1, x, y, z]] = 4 := rfl
theorem clen_heard (k : Int) (m : List Int) : clen [[2, k], m] = 3 + m.length := by
  show 2 + (m.length + 0) + 1 = 3 + m.length
  omega
theorem clen_tick : clen [[3]] = 1 := rfl
theorem clen_look : clen [[4]] = 1 := rfl
theorem CallAt.tail {r : List Int} {c : List (List Int)} {t : List Int} (h : CallAt r c t) : t = r.drop (clen c) := by
  cases h with
  | start x y t => rfl
  | send k a b t => rfl
  | heard k m t =>
    rw [clen_heard, Nat.add_comm]
    show t = (m ++ t).drop m.length
    rw [List.drop_left]
  | tick t => rfl
  | look t => rfl
theorem CallAt.lens {r : List Int} {c : List (List Int)} {t : List Int} (h : CallAt r c t) : clen c + t.length = r.length := by
  cases h with
  | start x y t => rw [clen_start]; simp; omega
  | send k a b t => rw [clen_send]; simp; omega
  | heard k m t => rw [clen_heard]; simp; omega
  | tick t => rw [clen_tick]; simp; omega
  | look t => rw [clen_look]; simp; omega
theorem clen_pos {r : List Int} {c : List (List Int)} {t : List Int} (h : CallAt r c t) : 0 < clen c := by
  have := h.lens
  have := h.len
  omega
theorem whole_all : ∀ {f : Nat} {cs : List (List (List Int))} {r : List Int}, PyFlat.calls PyKge2.shape f r = some cs → cs.map PyKge2.whole = cs := by
  intro f cs
  induction cs generalizing f with
  | nil => intro r h; rfl
  | cons c cs ih =>
    intro r h
    rcases calls_cases h with ⟨_, e⟩ | ⟨f', c', t, cs', h1, h2, e⟩
    · cases e
    · cases e
      rw [List.map_cons, h1.whole, ih h2]
structure Left (ns : List Int) (place : Nat) (g : List Int) (s : Kge2Neutral.S) : Prop where
  le : place ≤ ns.length
  ex : ∃ f cs, PyFlat.calls PyKge2.shape f (ns.drop place) = some cs ∧ PyInside.calls PyKge2.bound cs = true ∧ may s cs = true ∧ PyKge2.answers ns = g ++ PyFlat.told (PyFlat.played step s cs)
theorem left_start {ns : List Int} (h : PyKge2.answers_asked ns = true) : Left ns 0 [] none ∧ (PyKge2.answers ns).length ≤ 10000000 := by
  unfold PyKge2.answers_asked at h
  cases e : PyFlat.calls PyKge2.shape ns.length ns with
  | none =>
    rw [e] at h
    cases h
  | some cs =>
    rw [e] at h
    have h' : (!cs.isEmpty && PyFlat.atMost 2000 cs && PyInside.calls PyKge2.bound cs && Kge2Neutral.asked (cs.map PyKge2.whole) && PyFlat.short 10000000 (PyKge2.answers ns)) = true := h
    rw [Bool.and_eq_true, Bool.and_eq_true, Bool.and_eq_true, whole_all e] at h'
    obtain ⟨⟨⟨_, hb⟩, ha⟩, hs⟩ := h'
    unfold Kge2Neutral.asked at ha
    rw [Bool.and_eq_true] at ha
    refine ⟨⟨Nat.zero_le _, ns.length, cs, e, hb, ha.2, ?_⟩, of_decide_eq_true hs⟩
    unfold PyKge2.answers PyKge2.calls
    rw [e]
    show PyFlat.told (PyFlat.played step Kge2Neutral.start (cs.map PyKge2.whole)) = _
    rw [whole_all e]
    rfl
theorem left_end {ns : List Int} {place : Nat} {g : List Int} {s : Kge2Neutral.S} (L : Left ns place g s) (h : ¬ place < ns.length) : g = PyKge2.answers ns := by
  obtain ⟨f, cs, h1, _, _, h4⟩ := L.ex
  have e : ns.drop place = [] := List.drop_eq_nil_of_le (by omega)
  rw [e] at h1
  rcases calls_cases h1 with ⟨_, e2⟩ | ⟨f', c, t, cs', h5, _, _⟩
  · rw [h4, e2]
    show g = g ++ []
    rw [List.append_nil]
  · have := h5.len
    exact absurd this (Nat.not_lt_zero _)
theorem left_turn {ns : List Int} {place : Nat} {g : List Int} {s : Kge2Neutral.S} (L : Left ns place g s) (h : place < ns.length) : ∃ c t, CallN (ns.drop place) c t ∧ 0 < clen c ∧ (step s c).2.isEmpty = false ∧
    g.length + (1 + (step s c).2.length) ≤ (PyKge2.answers ns).length ∧ Left ns (place + clen c) (g ++ (((step s c).2.length : Int) :: (step s c).2)) (step s c).1 := by
  obtain ⟨f, cs, h1, h2, h3, h4⟩ := L.ex
  rcases calls_cases h1 with ⟨e, _⟩ | ⟨f', c, t, cs', h5, h6, rfl⟩
  · have : (ns.drop place).length = 0 := by rw [e]; rfl
    rw [List.length_drop] at this
    omega
  · have h2' : (PyInside.call PyKge2.bound c && PyInside.calls PyKge2.bound cs') = true := h2
    have h3' : (!((step s c).2.isEmpty) && may (step s c).1 cs') = true := h3
    rw [Bool.and_eq_true] at h2' h3'
    have e : PyFlat.told (PyFlat.played step s (c :: cs')) = (((step s c).2.length : Int) :: (step s c).2) ++ PyFlat.told (PyFlat.played step (step s c).1 cs') := rfl
    rw [e, ← List.append_assoc] at h4
    refine ⟨c, t, calln_of h5 h2'.1, clen_pos h5, by simpa using h3'.1, ?_, ?_, f', cs', ?_, h2'.2, h3'.2, h4⟩
    · rw [h4]
      simp only [List.length_append, List.length_cons]
      omega
    · have := h5.lens
      rw [List.length_drop] at this
      omega
    · rw [h5.tail, List.drop_drop] at h6
      exact h6
end Um

set_option Elab.async false
set_option maxRecDepth 100000
set_option maxHeartbeats 2000000
namespace Um
open PySem PySem.Spec PyProof.Rows L2
/-! ### the text by places -/
def top (i : Nat) : Stmt := PySem.Challenge.pw_uncutline_s01_answers.main.body.getD i (.Pass ⟨0, 0, 0, 0⟩)
abbrev sCheck : Stmt := top 20
abbrev sBytes : Stmt := top 21
abbrev sNumber : Stmt := top 22
abbrev sItem : Stmt := top 23
abbrev sMessage : Stmt := top 24
abbrev sFormed : Stmt := top 25
abbrev sToldM : Stmt := top 26
abbrev sToldO : Stmt := top 27
abbrev sAnswer : Stmt := top 28
abbrev sRefusal : Stmt := top 29
abbrev sInit : Stmt := inClass (top 30) 0
abbrev sStart : Stmt := inClass (top 30) 1
abbrev sSend : Stmt := inClass (top 30) 2
abbrev sHeard : Stmt := inClass (top 30) 3
abbrev sTick : Stmt := inClass (top 30) 4
abbrev sLook : Stmt := inClass (top 30) 5
abbrev sRight : Stmt := inClass (top 30) 6
abbrev sAcked : Stmt := inClass (top 30) 7
abbrev sAck : Stmt := inClass (top 30) 8
abbrev sOffer : Stmt := inClass (top 30) 9
abbrev sPacket : Stmt := inClass (top 30) 10
abbrev sBare : Stmt := inClass (top 30) 11
abbrev sLength : Stmt := top 31
abbrev sTo : Stmt := top 32
abbrev sAnswers : Stmt := top 33
/-! ### what the top has written -/
def Kon (mg : Str → Option Value) (x : Str) (i : Int) : Prop := ∃ t, mg x = some (.int i t)
structure Txt (K : PySem.W.Frag) (mg : Str → Option Value) (C : Addr) : Prop where
  rValue : Kon mg "REFUSED_VALUE" (-22)
  rFull : Kon mg "REFUSED_FULL" (-11)
  rMessage : Kon mg "REFUSED_MESSAGE" (-71)
  kStart : Kon mg "START" 0
  kSend : Kon mg "SEND" 1
  kHeard : Kon mg "HEARD" 2
  kTick : Kon mg "TICK" 3
  highest : Kon mg "HIGHEST_BYTE" 255
  mostW : Kon mg "MOST_WAITING" 64
  mostM : Kon mg "MOST_IN_MESSAGE" 16
  pCount : Kon mg "COUNT_PLACE" 2
  pZero : Kon mg "ZERO_PLACE" 3
  pGot : Kon mg "GOT_PLACE" 4
  pFirst : Kon mg "FIRST_PLACE" 8
  lHead : Kon mg "HEAD_LENGTH" 12
  lItem : Kon mg "ITEM_LENGTH" 13
  lCheck : Kon mg "CHECK_LENGTH" 4
  ones : Kon mg "ALL_ONES" 4294967295
  poly : Kon mg "POLYNOMIAL" 2197175160
  len : mg "len" = none
  range : mg "range" = none
  cl : Cls K C
  nMe : NoAttr K C "me"
  nOther : NoAttr K C "other"
  nWaiting : NoAttr K C "waiting"
  nSent : NoAttr K C "sent"
  nGot : NoAttr K C "got"
  gC : mg "End" = some (.ref C)
theorem pe_kon {X : Cx} {x : Str} {i : Int} {pos : Pos} (hg : Gl X x) (h : Kon X.mg x i) (hd : (x == ("__debug__" : Str)) = false := by decide) : PE X (.Name x pos) (tC (.int i)) := by
  obtain ⟨t, e⟩ := h
  exact pe_glob hg e ⟨t, rfl⟩ hd
/-- a def of the top that keeps its promise, as its callers see it -/
def Cal (P : Program) (w : World) (K : PySem.W.Frag) (mg : Str → Option Value) (base : Heap) (x : Str) (k : Nat) (ps : List Str) (sp : Sp) : Prop :=
  ∃ (f : Addr) (fd : FuncData), mg x = some (.ref f) ∧ PySem.W.keepIn K (.ref f) = true ∧ FnOk P w K mg base CX0 k f fd ps sp ∧ Binds K fd ps []
/-- a method that keeps its promise -/
def MCal (P : Program) (w : World) (K : PySem.W.Frag) (mg : Str → Option Value) (base : Heap) (C : Addr) (x : Str) (k : Nat) (ps : List Str) (sp : Sp) : Prop :=
  ∃ (f : Addr) (fd : FuncData), Meth K C x f ∧ FnOk P w K mg base CX0 k f fd ps sp ∧ Binds K fd ps []
theorem pe_cal {X : Cx} {x : Str} {k : Nat} {ps : List Str} {sp : Sp} {p pos : Pos} {e : Expr} {es : List Expr} {t : TA} (h : Cal X.prog X.w X.K X.mg X.base x k ps sp) (hr : Room k X.A) (hg : Gl X x) (ha : PA X (e :: es) t)
    (hdb : (x == ("__debug__" : Str)) = false := by decide) (hst : starEach (e :: es) X.env = (false, eval e X.env) :: starEach es X.env := by rfl) (hpl : (backTo pos (starEach es X.env)).any (·.1) = false := by rfl) :
    PE X (.Call (.Name x p) (e :: es) [] pos) (tCall sp [] E0 t) := by
  obtain ⟨f, fd, hm, hk, F, hb⟩ := h
  exact pe_call F hr hg hm hk hb .nil pass0 ha hdb hst hpl
theorem pe_mcal {X : Cx} {C : Addr} {m : Str} {k : Nat} {ps : List Str} {sp : Sp} {pos apos : Pos} {o e : Expr} {es : List Expr} {ta : TE} {t : TA} {pl : Sem Bool} (h : MCal X.prog X.w X.K X.mg X.base C m k ps sp) (c : Cls X.K C) (hr : Room k X.A) (he : PE X o ta) (ha : PA X (e :: es) t)
    (hst : starEach (e :: es) X.env = (false, eval e X.env) :: starEach es X.env := by rfl) (hpl : (backTo pos (starEach es X.env)).any (·.1) = false := by rfl)
    (ht : eval (.Call (.Attribute o m apos) (e :: es) [] pos) X.env = (do
      let ov ← eval o X.env
      standAt apos.atName
      let (f, first) ← holding [ov] (getMethod ov m pl)
      callWith pos f first (backTo pos (starEach (e :: es) X.env)) (backToKw pos (keywordEach [] X.env))) := by rfl) :
    PE X (.Call (.Attribute o m apos) (e :: es) [] pos) (tMeth C m sp [] E0 ta t) := by
  obtain ⟨f, fd, hm, F, hb⟩ := h
  exact pe_meth he c hm F hr hb .nil pass0 ha hst hpl ht
theorem pe_mcal0 {X : Cx} {C : Addr} {m : Str} {k : Nat} {ps : List Str} {sp : Sp} {pos apos : Pos} {o : Expr} {ta : TE} {pl : Sem Bool} (h : MCal X.prog X.w X.K X.mg X.base C m k ps sp) (c : Cls X.K C) (hr : Room k X.A) (he : PE X o ta)
    (ht : eval (.Call (.Attribute o m apos) [] [] pos) X.env = (do
      let ov ← eval o X.env
      standAt apos.atName
      let (f, first) ← holding [ov] (getMethod ov m pl)
      callWith pos f first (backTo pos (starEach [] X.env)) (backToKw pos (keywordEach [] X.env))) := by rfl) :
    PE X (.Call (.Attribute o m apos) [] [] pos) (tMeth C m sp [] E0 ta tNil) := by
  obtain ⟨f, fd, hm, F, hb⟩ := h
  exact pe_meth0 he c hm F hr hb .nil pass0 ht
/-! ### numbers -/
def nv (l : List Nat) : List V := l.map fun (n : Nat) => V.int (n : Int)
theorem nv_len (l : List Nat) : (nv l).length = l.length := List.length_map ..
theorem nv_get {l : List Nat} {i : Nat} {y : V} (h : (nv l)[i]? = some y) : ∃ x, l[i]? = some x ∧ y = V.int (x : Int) := by
  unfold nv at h
  rw [List.getElem?_map] at h
  cases e : l[i]? with
  | none =>
    rw [e] at h
    cases h
  | some z =>
    rw [e] at h
    exact ⟨z, rfl, (Option.some.inj h).symm⟩
theorem nv_at {l : List Nat} {i x : Nat} (h : l[i]? = some x) : (nv l)[i]? = some (V.int (x : Int)) := by
  unfold nv
  rw [List.getElem?_map, h]
  rfl
theorem nv_app (l m : List Nat) : nv (l ++ m) = nv l ++ nv m := List.map_append ..
theorem xor_nat (a b : Nat) : Builtin.bitXor (a : Int) (b : Int) = ((a ^^^ b : Nat) : Int) := by
  rw [Bits.bitXor_pp (Int.natCast_nonneg _) (Int.natCast_nonneg _), Int.toNat_natCast, Int.toNat_natCast]
theorem if_true_of {c : Bool} {A B : Prop} (hc : c = true) (h : A) : if c = true then A else B := by
  rw [if_pos hc]
  exact h
theorem if_false_of {c : Bool} {A B : Prop} (hc : c = false) (h : B) : if c = true then A else B := by
  rw [hc, if_neg Bool.false_ne_true]
  exact h
theorem int_ne {a b : Int} (h : a ≠ b) : decide (V.int a = V.int b) = false := decide_eq_false fun e => h (V.int.inj e)
theorem int_eq {a b : Int} (h : a = b) : decide (V.int a = V.int b) = true := decide_eq_true (congrArg V.int h)
/-! ### heaps -/
theorem same_upd {H : Hp} {p : Addr} {o : HO} (h : H p = none) : Same H (upd H p o) := fun b u e => by
  rw [upd_ne (ne_of_none e h)]
  exact e
end Um

set_option Elab.async false
set_option maxRecDepth 100000
set_option maxHeartbeats 2000000
namespace Um
open PySem PySem.Spec PyProof.Rows L2
/-! ### two lists, item by item -/
def Al {α β : Type} (R : α → β → Prop) (xs : List α) (ys : List β) : Prop := xs.length = ys.length ∧ ∀ (i : Nat) (x : α) (y : β), xs[i]? = some x → ys[i]? = some y → R x y
theorem Al.nil {α β : Type} {R : α → β → Prop} : Al R [] [] := ⟨rfl, fun i x y h => by simp at h⟩
theorem Al.mono {α β : Type} {R S : α → β → Prop} {xs : List α} {ys : List β} (h : Al R xs ys) (k : ∀ x y, R x y → S x y) : Al S xs ys := ⟨h.1, fun i x y a b => k x y (h.2 i x y a b)⟩
theorem Al.snoc {α β : Type} {R : α → β → Prop} {xs : List α} {ys : List β} {x : α} {y : β} (h : Al R xs ys) (r : R x y) : Al R (xs ++ [x]) (ys ++ [y]) := by
  refine ⟨by rw [List.length_append, List.length_append, h.1]; rfl, fun i u v a b => ?_⟩
  by_cases c : i < xs.length
  · rw [List.getElem?_append_left c] at a
    rw [List.getElem?_append_left (by rw [← h.1]; exact c)] at b
    exact h.2 i u v a b
  · rw [List.getElem?_append_right (by omega)] at a
    rw [List.getElem?_append_right (by rw [← h.1]; omega), ← h.1] at b
    cases e : i - xs.length with
    | zero =>
      rw [e] at a b
      have a' : x = u := Option.some.inj a
      have b' : y = v := Option.some.inj b
      rw [← a', ← b']
      exact r
    | succ n =>
      rw [e] at a
      simp at a
theorem Al.drop {α β : Type} {R : α → β → Prop} {xs : List α} {ys : List β} (h : Al R xs ys) (n : Nat) : Al R (xs.drop n) (ys.drop n) := by
  refine ⟨by rw [List.length_drop, List.length_drop, h.1], fun i u v a b => ?_⟩
  rw [List.getElem?_drop] at a b
  exact h.2 _ u v a b
theorem Al.take {α β : Type} {R : α → β → Prop} {xs : List α} {ys : List β} (h : Al R xs ys) (n : Nat) : Al R (xs.take n) (ys.take n) := by
  refine ⟨by rw [List.length_take, List.length_take, h.1], fun i u v a b => ?_⟩
  rw [List.getElem?_take] at a b
  split at a
  · rename_i c
    rw [if_pos c] at b
    exact h.2 _ u v a b
  · cases a
theorem Al.get {α β : Type} {R : α → β → Prop} {xs : List α} {ys : List β} (h : Al R xs ys) {i : Nat} {x : α} (a : xs[i]? = some x) : ∃ y, ys[i]? = some y ∧ R x y := by
  have l : i < ys.length := by
    rw [← h.1]
    exact (List.getElem?_eq_some_iff.mp a).1
  exact ⟨ys[i], List.getElem?_eq_getElem l, h.2 i x _ a (List.getElem?_eq_getElem l)⟩
theorem ref_get {ts : List Addr} {i : Nat} {y : V} (h : (ts.map V.ref)[i]? = some y) : ∃ t, ts[i]? = some t ∧ y = V.ref t := by
  rw [List.getElem?_map] at h
  cases e : ts[i]? with
  | none =>
    rw [e] at h
    cases h
  | some z =>
    rw [e] at h
    exact ⟨z, rfl, (Option.some.inj h).symm⟩
/-! ### what is told, what waits, in the heap -/
def iv (l : List Int) : List V := l.map V.int
theorem iv_len (l : List Int) : (iv l).length = l.length := List.length_map ..
theorem iv_app (l m : List Int) : iv (l ++ m) = iv l ++ iv m := List.map_append ..
theorem iv_ints (b : List Nat) : iv (Kge2Neutral.ints b) = nv b := by
  unfold iv Kge2Neutral.ints nv
  rw [List.map_map]
  rfl
def tv (x : Kge2.Item) : List V := [.int (x.kind : Int), .int (x.a : Int), .int (x.b : Int)]
def ItAt (H : Hp) (t : Addr) (x : Kge2.Item) : Prop := H t = some (.tup (tv x))
def EvAt (H : Hp) (t : Addr) (e : Kge2.Ev) : Prop := H t = some (.lst (iv (Kge2Neutral.told e)))
theorem told_more {q : List Kge2.Ev} {i : Nat} {e : Kge2.Ev} (h : q[i]? = some e) : (q.take (i + 1)).flatMap Kge2Neutral.told = (q.take i).flatMap Kge2Neutral.told ++ Kge2Neutral.told e := by
  rw [take_more h, List.flatMap_append]
  simp
theorem told_le (q : List Kge2.Ev) (i : Nat) : ((q.take i).flatMap Kge2Neutral.told).length ≤ (q.flatMap Kge2Neutral.told).length := by
  have e : q.flatMap Kge2Neutral.told = (q.take i).flatMap Kge2Neutral.told ++ (q.drop i).flatMap Kge2Neutral.told := by
    rw [← List.flatMap_append, List.take_append_drop]
  rw [e, List.length_append]
  omega
end Um

set_option Elab.async false
set_option maxRecDepth 100000
set_option maxHeartbeats 2000000
namespace Um
open PySem PySem.Spec PyProof.Rows L2
section
variable {P : Program} {w : World} {K : PySem.W.Frag} {mg : Str → Option Value} {base : Heap} {C : Addr}
/-! ### check_of -/
def spCheck (K : PySem.W.Frag) : Sp := fun vs H Q _ => ∃ (a : Addr) (b : List Nat), vs = [.ref a] ∧ SqL K H a (nv b) ∧ Q (.int ((Kge2.crc b : Nat) : Int)) H
theorem scCheck : FnScope ["row", "rest", "byte", "step"] ["row"] (defScope sCheck) := ⟨rfl, rfl, rfl, by decide +kernel, rfl, by decide +kernel, by decide +kernel⟩
theorem ok_check {f : Addr} {fd : FuncData} (F : Fun K "check_of" "check_of" sCheck f fd) (T : Txt K mg C) : FnOk P w K mg base CX0 1 f fd ["row"] (spCheck K) := by
  refine F.ok scCheck (fun vs H Q E h => ?_) (fun cdv A outer s H vs Q E hr h => ?_)
  · obtain ⟨a, b, rfl, _⟩ := h
    rfl
  obtain ⟨a, b, rfl, hS, k⟩ := h
  refine ⟨_, pss_cons (ps_set (i := 1) scCheck.nd rfl (Or.inl rfl) (pe_kon rfl T.ones))
    (pss_cons (ps_for PassesOwn.never rfl (pi_list (pv 0)) (pg_name (i := 2) scCheck.nd rfl (Or.inl rfl))
      (pss_cons (ps_set (i := 1) scCheck.nd rfl (Or.inl rfl) (pe_op op_xor (pv 1) (pv 2)))
      (pss_one (ps_for PassesOwn.never rfl (pi_range1 rfl T.range (pa_cons pe_int pa_nil)) (pg_name (i := 3) scCheck.nd rfl (Or.inl rfl))
        (pss_one (ps_if (pt_cmpR op_eq (pe_op op_and (pv 1) pe_int) pe_int (nomark _))
          (pss_one (ps_set (i := 1) scCheck.nd rfl (Or.inl rfl) (pe_op op_xor (pe_op op_shr (pv 1) pe_int) (pe_kon rfl T.poly))))
          (pss_one (ps_set (i := 1) scCheck.nd rfl (Or.inl rfl) (pe_op op_shr (pv 1) pe_int)))))))))
    (pss_one (ps_ret (pe_op op_xor (pv 1) (pe_kon rfl T.ones))))), ?_⟩
  refine ⟨_, rfl, a, rfl, ⟨_, hS⟩, for_list (K := K) (a := a) (xs := nv b) (fun i σ H' => ∃ v u : Option V, σ = [some (.ref a), some (.int ((crcF (b.take i) : Nat) : Int)), v, u] ∧ H' = H)
    ⟨none, none, rfl, rfl⟩ (fun i σ H' _ ⟨_, _, _, e⟩ => e ▸ hS) ?_ ?_⟩
  · rintro i y σ H' hi ⟨v, u, rfl, rfl⟩
    obtain ⟨x, hx, rfl⟩ := nv_get hi
    refine ⟨_, rfl, _, rfl, _, _, rfl, rfl, ?_⟩
    refine ⟨8, rfl, by decide, by decide, for_range (lo := 0) (n := 8) (fun j σ H2 => ∃ u : Option V, σ = [some (.ref a), some (.int ((it (crcF (b.take i) ^^^ x) j : Nat) : Int)), some (.int (x : Int)), u] ∧ H2 = H')
      ⟨u, ?_, rfl⟩ ?_ ?_⟩
    · show [some (V.ref a), some (V.int (Builtin.bitXor ((crcF (b.take i) : Nat) : Int) (x : Int))), some (V.int (x : Int)), u] = _
      rw [xor_nat]
      rfl
    · rintro j σ H2 hj ⟨u, rfl, rfl⟩
      refine ⟨_, rfl, _, _, rfl, rfl, rfl, _, rfl, ?_⟩
      generalize hc : it (crcF (b.take i) ^^^ x) j = c
      have e1 : Builtin.bitAnd (c : Int) 1 = ((c % 2 : Nat) : Int) := by
        rw [bitAnd_m1]
        omega
      have e2 : (c : Int) / 2 ^ (1 : Int).toNat = ((c / 2 : Nat) : Int) := by
        show (c : Int) / 2 = _
        omega
      by_cases q : c % 2 = 1
      · refine if_true_of (int_eq (by rw [e1, q]; rfl)) ?_
        refine ⟨_, rfl, _, _, rfl, rfl, (by show (0 : Int) ≤ 1; decide), _, _, rfl, rfl, ?_⟩
        refine ⟨some (.int (0 + (j : Int))), ?_, rfl⟩
        have e3 : Builtin.bitXor ((c : Int) / 2 ^ (1 : Int).toNat) 2197175160 = ((it (crcF (b.take i) ^^^ x) (j + 1) : Nat) : Int) := by
          show _ = ((Kge2.crcBit (it (crcF (b.take i) ^^^ x) j) : Nat) : Int)
          rw [hc, crcBit_odd q, e2]
          exact xor_nat (c / 2) 2197175160
        show [some (V.ref a), some (V.int (Builtin.bitXor ((c : Int) / 2 ^ (1 : Int).toNat) 2197175160)), some (V.int (x : Int)), some (V.int (0 + (j : Int)))] = _
        rw [e3]
      · refine if_false_of (int_ne (by rw [e1]; omega)) ?_
        refine ⟨_, rfl, _, _, rfl, rfl, (by show (0 : Int) ≤ 1; decide), ?_⟩
        refine ⟨some (.int (0 + (j : Int))), ?_, rfl⟩
        have e3 : (c : Int) / 2 ^ (1 : Int).toNat = ((it (crcF (b.take i) ^^^ x) (j + 1) : Nat) : Int) := by
          show _ = ((Kge2.crcBit (it (crcF (b.take i) ^^^ x) j) : Nat) : Int)
          rw [hc, crcBit_even q, e2]
        show [some (V.ref a), some (V.int ((c : Int) / 2 ^ (1 : Int).toNat)), some (V.int (x : Int)), some (V.int (0 + (j : Int)))] = _
        rw [e3]
    · rintro σ H2 ⟨u, rfl, rfl⟩
      refine ⟨some (.int (x : Int)), u, ?_, rfl⟩
      rw [crcF_more hx]
      rfl
  · rintro σ H' ⟨v, u, rfl, rfl⟩
    refine ⟨_, rfl, _, _, rfl, rfl, ?_⟩
    rw [nv_len, List.take_length]
    have e : Builtin.bitXor ((crcF b : Nat) : Int) 4294967295 = ((Kge2.crc b : Nat) : Int) := by
      rw [crc_is]
      exact xor_nat (crcF b) 4294967295
    show Q (V.int (Builtin.bitXor ((crcF b : Nat) : Int) 4294967295)) H'
    rw [e]
    exact k
end
end Um

set_option Elab.async false
set_option maxRecDepth 100000
set_option maxHeartbeats 2000000
namespace Um
open PySem PySem.Spec PyProof.Rows L2
section
variable {P : Program} {w : World} {K : PySem.W.Frag} {mg : Str → Option Value} {base : Heap} {C : Addr}
/-! ### bytes_of -/
def spBytes : Sp := fun vs H Q _ => ∃ (n k : Nat), vs = [.int (n : Int), .int (k : Int)] ∧ k ≤ 8 ∧
  ∀ (H' : Hp) (p : Addr), Same H H' → H p = none → H' p = some (.lst (nv (Kge2.le n k))) → Q (.ref p) H'
theorem scBytes : FnScope ["number", "length", "row", "step"] ["number", "length"] (defScope sBytes) := ⟨rfl, rfl, rfl, by decide +kernel, rfl, by decide +kernel, by decide +kernel⟩
theorem ok_bytes {f : Addr} {fd : FuncData} (F : Fun K "bytes_of" "bytes_of" sBytes f fd) (T : Txt K mg C) : FnOk P w K mg base CX0 1 f fd ["number", "length"] spBytes := by
  refine F.ok scBytes (fun vs H Q E h => ?_) (fun cdv A outer s H vs Q E hr h => ?_)
  · obtain ⟨a, b, rfl, _⟩ := h
    rfl
  obtain ⟨n, m, rfl, hm, k⟩ := h
  refine ⟨_, pss_cons (ps_set (i := 2) scBytes.nd rfl (Or.inl rfl) (pe_lst pa_nil))
    (pss_cons (ps_for PassesOwn.never rfl (pi_range1 rfl T.range (pa_cons (pv 1) pa_nil)) (pg_name (i := 3) scBytes.nd rfl (Or.inl rfl))
      (pss_cons (ps_expr (pe_bm PySem.F.plainAttrs_list PySem.F.slot_list_append PySem.F.type_list_append mt_append (pv 2) (pa_cons (pe_op op_and (pv 0) pe_int) pa_nil)))
      (pss_one (ps_set (i := 0) scBytes.nd rfl (Or.inl rfl) (pe_op op_shr (pv 0) pe_int)))))
    (pss_one (ps_ret (pv 2)))), ?_⟩
  refine ⟨Nat.zero_le _, fun p hp => ?_⟩
  refine ⟨_, rfl, (m : Int), rfl, by omega, by omega, for_range (lo := 0) (n := m) (fun i σ H' => ∃ u : Option V, σ = [some (.int ((n / 256 ^ i : Nat) : Int)), some (.int (m : Int)), some (.ref p), u] ∧ H' = upd H p (.lst (nv (Kge2.le n i))))
    ⟨none, ?_, rfl⟩ ?_ ?_⟩
  · rw [Nat.pow_zero, Nat.div_one]
    rfl
  · rintro i σ H' hi ⟨u, rfl, rfl⟩
    refine ⟨_, rfl, .inl ⟨rfl, _, SqL.of upd_same⟩, _, rfl, _, _, rfl, rfl, p, _, _, rfl, rfl, upd_same, ?_, ?_⟩
    · rw [nv_len, le_len]
      exact Nat.lt_of_lt_of_le hi (Nat.le_trans hm (by decide))
    · have e1 : Builtin.bitAnd ((n / 256 ^ i : Nat) : Int) 255 = ((n / 256 ^ i % 256 : Nat) : Int) := by
        rw [bitAnd_m8]
        omega
      have e2 : ((n / 256 ^ i : Nat) : Int) / 2 ^ (8 : Int).toNat = ((n / 256 ^ (i + 1) : Nat) : Int) := by
        show ((n / 256 ^ i : Nat) : Int) / 256 = _
        rw [← div_more]
        omega
      refine ⟨_, rfl, _, _, rfl, rfl, (by show (0 : Int) ≤ 8; decide), ?_⟩
      refine ⟨some (.int (0 + (i : Int))), ?_, ?_⟩
      · show [some (V.int (((n / 256 ^ i : Nat) : Int) / 2 ^ (8 : Int).toNat)), some (V.int (m : Int)), some (V.ref p), some (.int (0 + (i : Int)))] = _
        rw [e2]
      · show upd (upd H p _) p (.lst (nv (Kge2.le n i) ++ [V.int (Builtin.bitAnd ((n / 256 ^ i : Nat) : Int) 255)])) = _
        rw [upd_upd, e1, le_more, nv_app]
        rfl
  · rintro σ H' ⟨u, rfl, rfl⟩
    exact ⟨_, rfl, k _ p (same_upd hp) hp upd_same⟩
/-! ### number_at -/
def spNumber (K : PySem.W.Frag) : Sp := fun vs H Q _ => ∃ (a : Addr) (b : List Nat) (p n : Nat), vs = [.ref a, .int (p : Int), .int (n : Int)] ∧ SqL K H a (nv b) ∧ (∀ x ∈ b, x < 256) ∧ p + n ≤ b.length ∧ n ≤ 8 ∧ Q (.int ((Kge2.part b p n : Nat) : Int)) H
theorem scNumber : FnScope ["row", "place", "length", "number", "step"] ["row", "place", "length"] (defScope sNumber) := ⟨rfl, rfl, rfl, by decide +kernel, rfl, by decide +kernel, by decide +kernel⟩
theorem ok_number {f : Addr} {fd : FuncData} (F : Fun K "number_at" "number_at" sNumber f fd) (T : Txt K mg C) : FnOk P w K mg base CX0 1 f fd ["row", "place", "length"] (spNumber K) := by
  refine F.ok scNumber (fun vs H Q E h => ?_) (fun cdv A outer s H vs Q E hr h => ?_)
  · obtain ⟨a, b, p, n, rfl, _⟩ := h
    rfl
  obtain ⟨a, b, p, n, rfl, hS, hb, hl, hn, k⟩ := h
  refine ⟨_, pss_cons (ps_set (i := 3) scNumber.nd rfl (Or.inl rfl) pe_int)
    (pss_cons (ps_for PassesOwn.never rfl (pi_range1 rfl T.range (pa_cons (pv 2) pa_nil)) (pg_name (i := 4) scNumber.nd rfl (Or.inl rfl))
      (pss_one (ps_set (i := 3) scNumber.nd rfl (Or.inl rfl) (pe_op op_add (pv 3) (pe_op op_shl (pe_ix ix_list (pv 0) (pe_op op_add (pv 1) (pv 4)) (fun _ _ => rfl)) (pe_op op_mul pe_int (pv 4)))))))
    (pss_one (ps_ret (pv 3)))), ?_⟩
  refine ⟨_, rfl, (n : Int), rfl, by omega, by omega, for_range (lo := 0) (n := n) (fun i σ H' => ∃ u : Option V, σ = [some (.ref a), some (.int (p : Int)), some (.int (n : Int)), some (.int ((Kge2.part b p i : Nat) : Int)), u] ∧ H' = H)
    ⟨none, rfl, rfl⟩ ?_ ?_⟩
  · rintro i σ H' hi ⟨u, rfl, rfl⟩
    obtain ⟨x, hx⟩ := get_lt (l := b) (i := p + i) (by omega)
    have hx2 : x < 256 := hb x (List.mem_of_getElem? hx)
    refine ⟨_, rfl, _, rfl, _, rfl, _, rfl, _, _, rfl, rfl, a, nv b, _, V.int (x : Int), rfl, rfl, hS, at_of (j := p + i) (by omega) (nv_at hx), _, rfl, _, _, rfl, rfl, .inl ⟨by decide, by decide⟩, _, _, rfl, rfl, ?_, _, _, rfl, rfl, ?_⟩
    · refine ⟨?_, ?_, ?_⟩
      · omega
      · omega
      · show ((x : Int)).natAbs < 2 ^ 64
        omega
    · refine ⟨some (.int (0 + (i : Int))), ?_, rfl⟩
      show [some (V.ref a), some (V.int (p : Int)), some (V.int (n : Int)), some (V.int (((Kge2.part b p i : Nat) : Int) + (x : Int) * 2 ^ ((8 : Int) * (0 + (i : Int))).toNat)), some (V.int (0 + (i : Int)))] = _
      have e1 : ((8 : Int) * (0 + (i : Int))).toNat = 8 * i := by omega
      have e2 : ((Kge2.part b p i : Nat) : Int) + (x : Int) * 2 ^ (8 * i) = ((Kge2.part b p (i + 1) : Nat) : Int) := by
        rw [part_more hx, pow256, Int.natCast_add, Int.natCast_mul, Int.natCast_pow]
        rfl
      rw [e1, e2]
  · rintro σ H' ⟨u, rfl, rfl⟩
    exact ⟨_, rfl, k⟩
end
end Um

set_option Elab.async false
set_option maxRecDepth 100000
set_option maxHeartbeats 2000000
namespace Um
open PySem PySem.Spec PyProof.Rows L2
open Kge2Neutral (told)
section
variable {P : Program} {w : World} {K : PySem.W.Frag} {mg : Str → Option Value} {base : Heap} {C : Addr}
/-! ### told_message -/
def spToldM : Sp := fun vs H Q _ => ∃ (a : Addr) (b : List Nat), vs = [.ref a] ∧ H a = some (.lst (nv b)) ∧ b.length ≤ 1000 ∧
  ∀ (H' : Hp) (p : Addr), Same H H' → H p = none → EvAt H' p (.net b) → Q (.ref p) H'
theorem scToldM : FnScope ["message", "told"] ["message"] (defScope sToldM) := ⟨rfl, rfl, rfl, by decide +kernel, rfl, by decide +kernel, by decide +kernel⟩
theorem ok_toldM {f : Addr} {fd : FuncData} (F : Fun K "told_message" "told_message" sToldM f fd) (T : Txt K mg C) : FnOk P w K mg base CX0 1 f fd ["message"] spToldM := by
  refine F.ok scToldM (fun vs H Q E h => ?_) (fun cdv A outer s H vs Q E hr h => ?_)
  · obtain ⟨a, b, rfl, _⟩ := h
    rfl
  obtain ⟨a, b, rfl, ha, hb, k⟩ := h
  refine ⟨_, pss_cons (ps_set (i := 1) scToldM.nd rfl (Or.inl rfl) (pe_lst (pa_cons pe_int (pa_cons (pe_callB call_len_seq (by rfl) T.len PySem.boot_len (pa_cons (pv 0) pa_nil)) pa_nil))))
    (pss_cons (ps_expr (pe_bm PySem.F.plainAttrs_list PySem.F.slot_list_extend PySem.F.type_list_extend mt_extend (pv 1) (pa_cons (pv 0) pa_nil)))
    (pss_one (ps_ret (pv 1)))), ?_⟩
  refine ⟨_, rfl, a, _, rfl, .inl (SqL.of ha), (by show 2 ≤ sizeLine; decide), fun p hp => ?_⟩
  have e : upd H p (.lst [V.int 0, V.int ((nv b).length : Int)]) a = some (.lst (nv b)) := by
    rw [upd_ne (ne_of_none ha hp)]
    exact ha
  refine ⟨_, rfl, .inl ⟨rfl, _, SqL.of upd_same⟩, _, rfl, p, a, _, _, rfl, rfl, upd_same, e, ?_, ?_⟩
  · show 2 + (nv b).length ≤ sizeLine
    rw [nv_len]
    exact Nat.le_trans (Nat.add_le_add_left hb 2) (by decide)
  · refine ⟨_, rfl, k _ p ?_ hp ?_⟩
    · rw [upd_upd]
      exact same_upd hp
    · unfold EvAt
      rw [upd_same]
      show some (HO.lst (V.int 0 :: V.int ((nv b).length : Int) :: nv b)) = some (HO.lst (V.int 0 :: V.int (b.length : Int) :: iv (Kge2Neutral.ints b)))
      rw [iv_ints, nv_len]
/-! ### told_offer -/
def spToldO : Sp := fun vs H Q _ => ∃ (t : Addr) (x : Kge2.Item) (yes : Bool), vs = [.int (if yes then 1 else 0), .ref t] ∧ ItAt H t x ∧
  ∀ (H' : Hp) (p : Addr), Same H H' → H p = none → EvAt H' p (.got x yes) → Q (.ref p) H'
theorem scToldO : FnScope ["taken", "item"] ["taken", "item"] (defScope sToldO) := ⟨rfl, rfl, rfl, by decide +kernel, rfl, by decide +kernel, by decide +kernel⟩
theorem ok_toldO {f : Addr} {fd : FuncData} (F : Fun K "told_offer" "told_offer" sToldO f fd) (_T : Txt K mg C) : FnOk P w K mg base CX0 1 f fd ["taken", "item"] spToldO := by
  refine F.ok scToldO (fun vs H Q E h => ?_) (fun cdv A outer s H vs Q E hr h => ?_)
  · obtain ⟨t, x, y, rfl, _⟩ := h
    rfl
  obtain ⟨t, x, y, rfl, ht, k⟩ := h
  refine ⟨_, pss_one (ps_ret (pe_lst (pa_cons pe_int (pa_cons (pv 0) (pa_cons (pe_ix ix_tup (pv 1) pe_int (fun _ _ => rfl)) (pa_cons (pe_ix ix_tup (pv 1) pe_int (fun _ _ => rfl)) (pa_cons (pe_ix ix_tup (pv 1) pe_int (fun _ _ => rfl)) pa_nil))))))), ?_⟩
  refine ⟨_, rfl, _, rfl, t, _, _, _, rfl, rfl, SqT.of ht, at_of (j := 0) rfl rfl, _, rfl, t, _, _, _, rfl, rfl, SqT.of ht, at_of (j := 1) rfl rfl, _, rfl, t, _, _, _, rfl, rfl, SqT.of ht, at_of (j := 2) rfl rfl, (by show 5 ≤ sizeLine; decide), fun p hp => ?_⟩
  exact k _ p (same_upd hp) hp upd_same
/-! ### answer_with -/
def spAnswer : Sp := fun vs H Q _ => ∃ (a : Addr) (ts : List Addr) (q : List Kge2.Ev), vs = [.ref a] ∧ H a = some (.lst (ts.map V.ref)) ∧ Al (EvAt H) ts q ∧ (answer q).length ≤ sizeLine ∧
  ∀ (H' : Hp) (p : Addr), Same H H' → H p = none → H' p = some (.lst (iv (answer q))) → Q (.ref p) H'
theorem scAnswer : FnScope ["things", "answer", "told"] ["things"] (defScope sAnswer) := ⟨rfl, rfl, rfl, by decide +kernel, rfl, by decide +kernel, by decide +kernel⟩
theorem ok_answer {f : Addr} {fd : FuncData} (F : Fun K "answer_with" "answer_with" sAnswer f fd) (T : Txt K mg C) : FnOk P w K mg base CX0 1 f fd ["things"] spAnswer := by
  refine F.ok scAnswer (fun vs H Q E h => ?_) (fun cdv A outer s H vs Q E hr h => ?_)
  · obtain ⟨a, ts, q, rfl, _⟩ := h
    rfl
  obtain ⟨a, ts, q, rfl, ha, hq, hz, k⟩ := h
  refine ⟨_, pss_cons (ps_set (i := 1) scAnswer.nd rfl (Or.inl rfl) (pe_lst (pa_cons pe_int (pa_cons (pe_callB call_len_seq (by rfl) T.len PySem.boot_len (pa_cons (pv 0) pa_nil)) pa_nil))))
    (pss_cons (ps_for PassesOwn.never rfl (pi_list (pv 0)) (pg_name (i := 2) scAnswer.nd rfl (Or.inl rfl))
      (pss_one (ps_expr (pe_bm PySem.F.plainAttrs_list PySem.F.slot_list_extend PySem.F.type_list_extend mt_extend (pv 1) (pa_cons (pv 2) pa_nil)))))
    (pss_one (ps_ret (pv 1)))), ?_⟩
  refine ⟨_, rfl, a, _, rfl, .inl (SqL.of ha), (by show 2 ≤ sizeLine; decide), fun p hp => ?_⟩
  have ea : ∀ o, upd H p o a = some (.lst (ts.map V.ref)) := fun o => by
    rw [upd_ne (ne_of_none ha hp)]
    exact ha
  refine ⟨_, rfl, a, rfl, ⟨_, SqL.of (ea _)⟩, for_list (K := K) (a := a) (xs := ts.map V.ref) (fun i σ H' => ∃ u : Option V, σ = [some (.ref a), some (.ref p), u] ∧ H' = upd H p (.lst (iv (0 :: (q.length : Int) :: (q.take i).flatMap told))))
    ⟨none, rfl, ?_⟩ (fun i σ H' _ ⟨_, _, e⟩ => e ▸ SqL.of (ea _)) ?_ ?_⟩
  · show upd H p (.lst [V.int 0, V.int ((ts.map V.ref).length : Int)]) = _
    rw [List.length_map, hq.1]
    rfl
  · rintro i y σ H' hi ⟨u, rfl, rfl⟩
    obtain ⟨t, ht, rfl⟩ := ref_get hi
    obtain ⟨e, he, hev⟩ := hq.get ht
    have et : ∀ o, upd H p o t = some (.lst (iv (told e))) := fun o => by
      rw [upd_ne (ne_of_none hev hp)]
      exact hev
    refine ⟨_, rfl, .inl ⟨rfl, _, SqL.of upd_same⟩, _, rfl, p, t, _, _, rfl, rfl, upd_same, et _, ?_, ?_⟩
    · have h1 := told_le q (i + 1)
      rw [told_more he, List.length_append] at h1
      have h2 : (q.flatMap told).length + 2 ≤ sizeLine := hz
      rw [iv_len, iv_len]
      show (((q.take i).flatMap told).length + 2) + (told e).length ≤ sizeLine
      omega
    · refine ⟨some (.ref t), rfl, ?_⟩
      rw [upd_upd, told_more he, ← iv_app]
      rfl
  · rintro σ H' ⟨u, rfl, rfl⟩
    refine ⟨_, rfl, k _ p (same_upd hp) hp ?_⟩
    rw [upd_same, List.length_map, hq.1, List.take_length]
    rfl
/-! ### refusal -/
def spRefusal : Sp := fun vs H Q _ => ∃ (z : Int), vs = [.int z] ∧ ∀ (H' : Hp) (p : Addr), Same H H' → H p = none → H' p = some (.lst (iv [z, 0])) → Q (.ref p) H'
theorem scRefusal : FnScope ["number"] ["number"] (defScope sRefusal) := ⟨rfl, rfl, rfl, by decide +kernel, rfl, by decide +kernel, by decide +kernel⟩
theorem ok_refusal {f : Addr} {fd : FuncData} (F : Fun K "refusal" "refusal" sRefusal f fd) : FnOk P w K mg base CX0 1 f fd ["number"] spRefusal := by
  refine F.ok scRefusal (fun vs H Q E h => ?_) (fun cdv A outer s H vs Q E hr h => ?_)
  · obtain ⟨z, rfl, _⟩ := h
    rfl
  obtain ⟨z, rfl, k⟩ := h
  refine ⟨_, pss_one (ps_ret (pe_lst (pa_cons (pv 0) (pa_cons pe_int pa_nil)))), ?_⟩
  exact ⟨_, rfl, (by show 2 ≤ sizeLine; decide), fun p hp => k _ p (same_upd hp) hp upd_same⟩
end
end Um

set_option Elab.async false
set_option maxRecDepth 100000
set_option maxHeartbeats 2000000
namespace Um
open PySem PySem.Spec PyProof.Rows L2
section
variable {P : Program} {w : World} {K : PySem.W.Frag} {mg : Str → Option Value} {base : Heap} {C : Addr}
/-! ### item_at -/
def spItem (K : PySem.W.Frag) : Sp := fun vs H Q _ => ∃ (a : Addr) (b : List Nat) (j : Nat), vs = [.ref a, .int (j : Int)] ∧ SqL K H a (nv b) ∧ (∀ x ∈ b, x < 256) ∧ 25 + 13 * j ≤ b.length ∧
  ∀ (H' : Hp) (p : Addr), Same H H' → H p = none → ItAt H' p (itemOf b j) → Q (.ref p) H'
theorem scItem : FnScope ["message", "rank", "place"] ["message", "rank"] (defScope sItem) := ⟨rfl, rfl, rfl, by decide +kernel, rfl, by decide +kernel, by decide +kernel⟩
theorem ok_item {f : Addr} {fd : FuncData} (F : Fun K "item_at" "item_at" sItem f fd) (T : Txt K mg C) (GN : Cal P w K mg base "number_at" 1 ["row", "place", "length"] (spNumber K)) : FnOk P w K mg base CX0 2 f fd ["message", "rank"] (spItem K) := by
  refine F.ok scItem (fun vs H Q E h => ?_) (fun cdv A outer s H vs Q E hr h => ?_)
  · obtain ⟨a, b, j, rfl, _⟩ := h
    rfl
  obtain ⟨a, b, j, rfl, hS, hb, hl, k⟩ := h
  refine ⟨_, pss_cons (ps_set (i := 2) scItem.nd rfl (Or.inl rfl) (pe_op op_add (pe_kon rfl T.lHead) (pe_op op_mul (pe_kon rfl T.lItem) (pv 1))))
    (pss_one (ps_ret (pe_tup (pa_cons (pe_ix ix_list (pv 0) (pv 2) (fun _ _ => rfl))
      (pa_cons (pe_cal GN hr rfl (pa_cons (pv 0) (pa_cons (pe_op op_add (pv 2) pe_int) (pa_cons pe_int pa_nil))))
      (pa_cons (pe_cal GN hr rfl (pa_cons (pv 0) (pa_cons (pe_op op_add (pv 2) pe_int) (pa_cons pe_int pa_nil)))) pa_nil)))))), ?_⟩
  obtain ⟨x, hx⟩ := get_lt (l := b) (i := 12 + 13 * j) (by omega)
  have e0 : (12 : Int) + 13 * (j : Int) = ((12 + 13 * j : Nat) : Int) := by omega
  have e1 : (12 : Int) + 13 * (j : Int) + 1 = ((13 + 13 * j : Nat) : Int) := by omega
  have e2 : (12 : Int) + 13 * (j : Int) + 5 = ((17 + 13 * j : Nat) : Int) := by omega
  refine ⟨_, rfl, _, _, rfl, rfl, .inl ⟨by decide, by decide⟩, _, _, rfl, rfl, ?_⟩
  refine ⟨_, rfl, _, rfl, a, nv b, _, V.int (x : Int), rfl, rfl, hS, at_of (j := 12 + 13 * j) e0 (nv_at hx), ?_⟩
  refine ⟨_, rfl, _, rfl, _, _, rfl, rfl, a, b, 13 + 13 * j, 4, congrArg (fun z => [V.ref a, V.int z, V.int 4]) e1, hS, hb, by omega, by omega, ?_⟩
  refine ⟨_, rfl, _, rfl, _, _, rfl, rfl, a, b, 17 + 13 * j, 8, congrArg (fun z => [V.ref a, V.int z, V.int 8]) e2, hS, hb, by omega, by omega, ?_⟩
  refine ⟨(by show 3 ≤ sizeLine; decide), fun p hp => k _ p (same_upd hp) hp ?_⟩
  unfold ItAt itemOf tv
  rw [upd_same, getD_of hx]
end
end Um

set_option Elab.async false
set_option maxRecDepth 100000
set_option maxHeartbeats 2000000
namespace Um
open PySem PySem.Spec PyProof.Rows L2
section
variable {P : Program} {w : World} {K : PySem.W.Frag} {mg : Str → Option Value} {base : Heap} {C : Addr}
theorem same_put {H H2 : Hp} {p : Addr} {o : HO} (s : Same H H2) (h : H p = none) : Same H (upd H2 p o) := fun b u e => by
  rw [upd_ne (ne_of_none e h)]
  exact s b u e
/-! ### message_of -/
def spMessage : Sp := fun vs H Q _ => ∃ (m : Kge2.Msg) (l : Addr) (ts : List Addr), vs = [.int (m.from_ : Int), .int (m.to_ : Int), .int (m.got : Int), .int (m.first : Int), .ref l] ∧ H l = some (.lst (ts.map V.ref)) ∧ Al (ItAt H) ts m.items ∧ m.items.length ≤ 64 ∧
  ∀ (H' : Hp) (p : Addr), Same H H' → H p = none → H' p = some (.lst (nv (Kge2.written m))) → Q (.ref p) H'
theorem scMessage : FnScope ["sender", "receiver", "got", "first", "items", "message", "kind", "a", "b"] ["sender", "receiver", "got", "first", "items"] (defScope sMessage) := ⟨rfl, rfl, rfl, by decide +kernel, rfl, by decide +kernel, by decide +kernel⟩
theorem ok_message {f : Addr} {fd : FuncData} (F : Fun K "message_of" "message_of" sMessage f fd) (T : Txt K mg C) (GB : Cal P w K mg base "bytes_of" 1 ["number", "length"] spBytes) (GC : Cal P w K mg base "check_of" 1 ["row"] (spCheck K)) :
    FnOk P w K mg base CX0 2 f fd ["sender", "receiver", "got", "first", "items"] spMessage := by
  refine F.ok scMessage (fun vs H Q E h => ?_) (fun cdv A outer s H vs Q E hr h => ?_)
  · obtain ⟨m, l, ts, rfl, _⟩ := h
    rfl
  obtain ⟨m, l, ts, rfl, hl, hts, hn, k⟩ := h
  refine ⟨_, pss_cons (ps_set (i := 5) scMessage.nd rfl (Or.inl rfl) (pe_lst (pa_cons (pv 0) (pa_cons (pv 1) (pa_cons (pe_callB call_len_seq (by rfl) T.len PySem.boot_len (pa_cons (pv 4) pa_nil)) (pa_cons pe_int pa_nil))))))
    (pss_cons (ps_expr (pe_bm PySem.F.plainAttrs_list PySem.F.slot_list_extend PySem.F.type_list_extend mt_extend (pv 5) (pa_cons (pe_cal GB hr rfl (pa_cons (pv 2) (pa_cons pe_int pa_nil))) pa_nil)))
    (pss_cons (ps_expr (pe_bm PySem.F.plainAttrs_list PySem.F.slot_list_extend PySem.F.type_list_extend mt_extend (pv 5) (pa_cons (pe_cal GB hr rfl (pa_cons (pv 3) (pa_cons pe_int pa_nil))) pa_nil)))
    (pss_cons (ps_for PassesOwn.never rfl (pi_list (pv 4)) (pg_tup rfl (pgs_cons (pg_name (i := 6) scMessage.nd rfl (Or.inl rfl)) (pgs_cons (pg_name (i := 7) scMessage.nd rfl (Or.inl rfl)) (pgs_cons (pg_name (i := 8) scMessage.nd rfl (Or.inl rfl)) pgs_nil))))
      (pss_cons (ps_expr (pe_bm PySem.F.plainAttrs_list PySem.F.slot_list_append PySem.F.type_list_append mt_append (pv 5) (pa_cons (pv 6) pa_nil)))
      (pss_cons (ps_expr (pe_bm PySem.F.plainAttrs_list PySem.F.slot_list_extend PySem.F.type_list_extend mt_extend (pv 5) (pa_cons (pe_cal GB hr rfl (pa_cons (pv 7) (pa_cons pe_int pa_nil))) pa_nil)))
      (pss_one (ps_expr (pe_bm PySem.F.plainAttrs_list PySem.F.slot_list_extend PySem.F.type_list_extend mt_extend (pv 5) (pa_cons (pe_cal GB hr rfl (pa_cons (pv 8) (pa_cons pe_int pa_nil))) pa_nil)))))))
    (pss_cons (ps_expr (pe_bm PySem.F.plainAttrs_list PySem.F.slot_list_extend PySem.F.type_list_extend mt_extend (pv 5) (pa_cons (pe_cal GB hr rfl (pa_cons (pe_cal GC hr rfl (pa_cons (pv 5) pa_nil)) (pa_cons (pe_kon rfl T.lCheck) pa_nil))) pa_nil)))
    (pss_one (ps_ret (pv 5))))))), ?_⟩
  have hlen : ts.length = m.items.length := hts.1
  refine ⟨_, rfl, _, rfl, _, rfl, l, _, rfl, .inl (SqL.of hl), (by show 4 ≤ sizeLine; decide), fun p hp => ?_⟩
  have h4 : [V.int (m.from_ : Int), V.int (m.to_ : Int), V.int ((ts.map V.ref).length : Int), V.int 0] = nv [m.from_, m.to_, m.items.length, 0] := by
    rw [List.length_map, hlen]
    rfl
  -- message.extend(bytes_of(got, 4))
  refine ⟨_, rfl, .inl ⟨rfl, _, SqL.of upd_same⟩, _, rfl, m.got, 4, rfl, by decide, fun H1 q1 s1 n1 h1 => ?_⟩
  have p1 : H1 p = some (.lst (nv [m.from_, m.to_, m.items.length, 0])) := by
    rw [← h4]
    exact s1 _ _ upd_same
  refine ⟨p, q1, _, _, rfl, rfl, p1, h1, (by rw [nv_len, nv_len, le_len]; show 4 + 4 ≤ sizeLine; decide), ?_⟩
  have S1 : Same H (upd H1 p (.lst (nv [m.from_, m.to_, m.items.length, 0] ++ nv (Kge2.le m.got 4)))) := same_put ((same_upd hp).trans s1) hp
  -- message.extend(bytes_of(first, 4))
  refine ⟨_, rfl, .inl ⟨rfl, _, SqL.of upd_same⟩, _, rfl, m.first, 4, rfl, by decide, fun H2 q2 s2 n2 h2 => ?_⟩
  refine ⟨p, q2, _, _, rfl, rfl, s2 _ _ upd_same, h2, (by rw [List.length_append, nv_len, nv_len, nv_len, le_len, le_len]; show 4 + 4 + 4 ≤ sizeLine; decide), ?_⟩
  have e2 : nv [m.from_, m.to_, m.items.length, 0] ++ nv (Kge2.le m.got 4) ++ nv (Kge2.le m.first 4) = nv (head m.from_ m.to_ m.items.length m.got m.first) := by
    rw [← nv_app, ← nv_app]
    rfl
  have S2 := same_put (p := p) (o := .lst (nv [m.from_, m.to_, m.items.length, 0] ++ nv (Kge2.le m.got 4) ++ nv (Kge2.le m.first 4))) (S1.trans s2) hp
  refine ⟨_, rfl, l, rfl, ⟨_, SqL.of (S2 _ _ hl)⟩, for_list (K := K) (a := l) (xs := ts.map V.ref) (fun i σ H' => ∃ u v x : Option V, σ = [some (.int (m.from_ : Int)), some (.int (m.to_ : Int)), some (.int (m.got : Int)), some (.int (m.first : Int)), some (.ref l), some (.ref p), u, v, x] ∧
      Same H H' ∧ H' p = some (.lst (nv (head m.from_ m.to_ m.items.length m.got m.first ++ (m.items.take i).flatMap Kge2.itemBytes))))
    ⟨none, none, none, rfl, S2, ?_⟩ (fun i σ H' _ ⟨_, _, _, _, S, _⟩ => SqL.of (S _ _ hl)) ?_ ?_⟩
  · rw [upd_same, e2]
    show _ = some (HO.lst (nv (head m.from_ m.to_ m.items.length m.got m.first ++ [])))
    rw [List.append_nil]
  · rintro i y σ H' hi ⟨u, v, z, rfl, S, hp'⟩
    obtain ⟨t, ht, rfl⟩ := ref_get hi
    obtain ⟨x, hx, hit⟩ := hts.get ht
    have hil : i < m.items.length := (List.getElem?_eq_some_iff.mp hx).1
    have hb : (head m.from_ m.to_ m.items.length m.got m.first ++ (m.items.take i).flatMap Kge2.itemBytes).length ≤ 900 := by
      rw [List.length_append, head_len, items_len, List.length_take]
      omega
    generalize hB : head m.from_ m.to_ m.items.length m.got m.first ++ (m.items.take i).flatMap Kge2.itemBytes = B at hp' hb
    refine ⟨t, tv x, rfl, SqT.of (S _ _ hit), rfl, _, _, rfl, _, _, rfl, _, _, rfl, rfl, ?_⟩
    -- message.append(kind)
    refine ⟨_, rfl, .inl ⟨rfl, _, SqL.of hp'⟩, _, rfl, p, _, _, rfl, rfl, hp', (by rw [nv_len]; exact Nat.lt_of_le_of_lt hb (by decide)), ?_⟩
    have S3 := same_put (p := p) (o := .lst (nv B ++ [V.int (x.kind : Int)])) S hp
    refine ⟨_, rfl, .inl ⟨rfl, _, SqL.of upd_same⟩, _, rfl, x.a, 4, rfl, by decide, fun H3 q3 s3 n3 h3 => ?_⟩
    refine ⟨p, q3, _, _, rfl, rfl, s3 _ _ upd_same, h3, (by rw [List.length_append, nv_len, nv_len, le_len]; exact Nat.le_trans (Nat.add_le_add_right (Nat.add_le_add_right hb 1) 4) (by decide)), ?_⟩
    have S4 := same_put (p := p) (o := .lst (nv B ++ [V.int (x.kind : Int)] ++ nv (Kge2.le x.a 4))) (S3.trans s3) hp
    refine ⟨_, rfl, .inl ⟨rfl, _, SqL.of upd_same⟩, _, rfl, x.b, 8, rfl, by decide, fun H4 q4 s4 n4 h4 => ?_⟩
    refine ⟨p, q4, _, _, rfl, rfl, s4 _ _ upd_same, h4, (by rw [List.length_append, List.length_append, nv_len, nv_len, nv_len, le_len, le_len]; exact Nat.le_trans (Nat.add_le_add_right (Nat.add_le_add_right (Nat.add_le_add_right hb 1) 4) 8) (by decide)), ?_⟩
    refine ⟨some (.int (x.kind : Int)), some (.int (x.a : Int)), some (.int (x.b : Int)), rfl, same_put (S4.trans s4) hp, ?_⟩
    rw [upd_same, items_more hx, ← List.append_assoc, hB, nv_app]
    have e : nv (Kge2.itemBytes x) = [V.int (x.kind : Int)] ++ nv (Kge2.le x.a 4) ++ nv (Kge2.le x.b 8) := by
      show nv ([x.kind] ++ Kge2.le x.a 4 ++ Kge2.le x.b 8) = _
      rw [nv_app, nv_app]
      rfl
    rw [e, List.append_assoc, List.append_assoc, List.append_assoc]
  · rintro σ H' ⟨u, v, z, rfl, S, hp'⟩
    rw [List.length_map, hlen, List.take_length, ← body_is] at hp'
    -- message.extend(bytes_of(check_of(message), CHECK_LENGTH))
    refine ⟨_, rfl, .inl ⟨rfl, _, SqL.of hp'⟩, _, rfl, p, Kge2.body m, rfl, SqL.of hp', Kge2.crc (Kge2.body m), 4, rfl, by decide, fun H5 q5 s5 n5 h5 => ?_⟩
    refine ⟨p, q5, _, _, rfl, rfl, s5 _ _ hp', h5, (by rw [nv_len, nv_len, le_len, body_len]; exact Nat.le_trans (Nat.add_le_add_right (Nat.add_le_add_left (Nat.mul_le_mul_left 13 hn) 12) 4) (by decide)), ?_⟩
    refine ⟨_, rfl, k _ p (same_put (S.trans s5) hp) hp ?_⟩
    rw [upd_same, ← nv_app]
    rfl
end
end Um

set_option Elab.async false
set_option maxRecDepth 100000
set_option maxHeartbeats 2000000
namespace Um
open PySem PySem.Spec PyProof.Rows L2
section
variable {P : Program} {w : World} {K : PySem.W.Frag} {mg : Str → Option Value} {base : Heap} {C : Addr}
theorem cutV_to (b : List Nat) (n : Nat) : cutV (nv b) none (some (n : Int)) = nv (b.take n) := by
  unfold cutV
  rw [HT.sIx_none, HT.sIx_nat, List.drop_zero, Nat.sub_zero, nv_len]
  unfold nv
  rw [← List.map_take]
  congr 1
  by_cases h : n ≤ b.length
  · rw [Nat.min_eq_left h]
  · rw [Nat.min_eq_right (by omega), List.take_length, List.take_of_length_le (by omega)]
/-! ### is_well_formed -/
def spFormed (K : PySem.W.Frag) : Sp := fun vs H Q _ => ∃ (a : Addr) (b : List Nat), vs = [.ref a] ∧ SqL K H a (nv b) ∧ (∀ x ∈ b, x < 256) ∧ ∀ (H' : Hp), Same H H' → Q (.bl (okB b)) H'
theorem scFormed : FnScope ["message", "count", "first", "check_place"] ["message"] (defScope sFormed) := ⟨rfl, rfl, rfl, by decide +kernel, rfl, by decide +kernel, by decide +kernel⟩
theorem ok_formed {f : Addr} {fd : FuncData} (F : Fun K "is_well_formed" "is_well_formed" sFormed f fd) (T : Txt K mg C) (GN : Cal P w K mg base "number_at" 1 ["row", "place", "length"] (spNumber K)) (GC : Cal P w K mg base "check_of" 1 ["row"] (spCheck K)) :
    FnOk P w K mg base CX0 2 f fd ["message"] (spFormed K) := by
  refine F.ok scFormed (fun vs H Q E h => ?_) (fun cdv A outer s H vs Q E hr h => ?_)
  · obtain ⟨a, b, rfl, _⟩ := h
    rfl
  obtain ⟨a, b, rfl, hS, hb, k⟩ := h
  refine ⟨_, pss_cons (ps_if (pt_cmpR op_lt (pe_callB call_len_seq (by rfl) T.len PySem.boot_len (pa_cons (pv 0) pa_nil)) (pe_op op_add (pe_kon rfl T.lHead) (pe_kon rfl T.lCheck)) (nomark _)) (pss_one (ps_ret pe_bl)) pss_nil)
    (pss_cons (ps_set (i := 1) scFormed.nd rfl (Or.inl rfl) (pe_ix ix_list (pv 0) (pe_kon rfl T.pCount) (fun _ _ => rfl)))
    (pss_cons (ps_if (PW.pt (pw_or (pt_cmpR op_gt (pv 1) (pe_kon rfl T.mostM) (nomark _)) (pw_or1 (pt_cmpR op_ne (pe_ix ix_list (pv 0) (pe_kon rfl T.pZero) (fun _ _ => rfl)) pe_int (nomark _))))) (pss_one (ps_ret pe_bl)) pss_nil)
    (pss_cons (ps_if (pt_cmpR op_ne (pe_callB call_len_seq (by rfl) T.len PySem.boot_len (pa_cons (pv 0) pa_nil)) (pe_op op_add (pe_op op_add (pe_kon rfl T.lHead) (pe_op op_mul (pe_kon rfl T.lItem) (pv 1))) (pe_kon rfl T.lCheck)) (nomark _)) (pss_one (ps_ret pe_bl)) pss_nil)
    (pss_cons (ps_set (i := 2) scFormed.nd rfl (Or.inl rfl) (pe_cal GN hr rfl (pa_cons (pv 0) (pa_cons (pe_kon rfl T.pFirst) (pa_cons pe_int pa_nil)))))
    (pss_cons (ps_if (pt_cmpR op_ne (pe_cmpR op_eq (pv 2) pe_int (nomark _)) (pe_cmpR op_eq (pv 1) pe_int (nomark _)) (nomark _)) (pss_one (ps_ret pe_bl)) pss_nil)
    (pss_cons (ps_set (i := 3) scFormed.nd rfl (Or.inl rfl) (pe_op op_sub (pe_callB call_len_seq (by rfl) T.len PySem.boot_len (pa_cons (pv 0) pa_nil)) (pe_kon rfl T.lCheck)))
    (pss_one (ps_ret (pe_cmpR op_eq (pe_cal GN hr rfl (pa_cons (pv 0) (pa_cons (pv 3) (pa_cons (pe_kon rfl T.lCheck) pa_nil)))) (pe_cal GC hr rfl (pa_cons (pe_slice sl_list (pv 0) po_none (po_some (pv 3))) pa_nil)) (nomark _)))))))))), ?_⟩
  have hlen : (nv b).length = b.length := nv_len b
  have bad : Bad b → Q (.bl false) H := fun h => by
    have e := k H (Same.refl H)
    rw [okB_bad h] at e
    exact e
  refine ⟨_, rfl, a, _, rfl, .inl hS, _, _, rfl, rfl, _, _, rfl, rfl, _, rfl, ?_⟩
  by_cases c1 : b.length < 16
  · refine if_true_of (decide_eq_true ?_) (bad (.inl c1))
    rw [hlen]
    omega
  refine if_false_of (decide_eq_false ?_) ?_
  · rw [hlen]
    omega
  obtain ⟨n, hn⟩ := get_lt (l := b) (i := 2) (by omega)
  obtain ⟨z, hz⟩ := get_lt (l := b) (i := 3) (by omega)
  have en := getD_of hn
  have ez := getD_of hz
  refine ⟨_, rfl, a, nv b, _, V.int (n : Int), rfl, rfl, hS, at_of (j := 2) rfl (nv_at hn), ?_⟩
  refine ⟨_, rfl, _, _, rfl, rfl, _, rfl, ?_⟩
  by_cases c2 : 16 < n
  · refine if_true_of (decide_eq_true (by omega)) (if_true_of rfl (bad (.inr (.inl ?_))))
    rw [en]
    exact c2
  refine if_false_of (decide_eq_false (by omega)) ?_
  refine ⟨_, rfl, a, nv b, _, V.int (z : Int), rfl, rfl, hS, at_of (j := 3) rfl (nv_at hz), rfl, _, rfl, ?_⟩
  by_cases c3 : z = 0
  case neg =>
    refine if_true_of ?_ (bad (.inr (.inr (.inr (.inl ?_)))))
    · rw [int_ne (by omega)]
      rfl
    · rw [ez]
      exact c3
  refine if_false_of ?_ ?_
  · rw [int_eq (by omega)]
    rfl
  refine ⟨_, rfl, a, _, rfl, .inl hS, _, rfl, _, _, rfl, rfl, .inl ⟨by decide, by decide⟩, _, _, rfl, rfl, _, _, rfl, rfl, rfl, _, rfl, ?_⟩
  by_cases c4 : b.length = 16 + 13 * n
  case neg =>
    refine if_true_of ?_ (bad (.inr (.inr (.inl ?_))))
    · rw [hlen, int_ne (by omega)]
      rfl
    · rw [en]
      exact c4
  refine if_false_of ?_ ?_
  · rw [hlen, int_eq (by omega)]
    rfl
  refine ⟨_, rfl, a, b, 8, 4, rfl, hS, hb, by omega, by omega, ?_⟩
  refine ⟨_, rfl, rfl, _, rfl, rfl, rfl, _, rfl, ?_⟩
  have eb : ∀ (x : Nat), decide (V.int (x : Int) = V.int 0) = (x == 0) := fun x => by
    by_cases h : x = 0
    · subst h
      rfl
    · rw [int_ne (by omega)]
      symm
      simpa using h
  by_cases c5 : (n == 0) = (Kge2.part b 8 4 == 0)
  case neg =>
    refine if_true_of ?_ (bad (.inr (.inr (.inr (.inr (.inl ?_))))))
    · show (!decide (V.bl (decide (V.int ((Kge2.part b 8 4 : Nat) : Int) = V.int 0)) = V.bl (decide (V.int (n : Int) = V.int 0)))) = true
      rw [eb, eb, decide_eq_false fun e => c5 (V.bl.inj e).symm]
      rfl
    · rw [en]
      exact c5
  refine if_false_of ?_ ?_
  · show (!decide (V.bl (decide (V.int ((Kge2.part b 8 4 : Nat) : Int) = V.int 0)) = V.bl (decide (V.int (n : Int) = V.int 0)))) = false
    rw [eb, eb, c5, decide_eq_true rfl]
    rfl
  have e4 : ((nv b).length : Int) - 4 = ((b.length - 4 : Nat) : Int) := by
    rw [hlen]
    omega
  refine ⟨_, rfl, a, _, rfl, .inl hS, _, _, rfl, rfl, ?_⟩
  refine ⟨_, rfl, _, rfl, a, b, b.length - 4, 4, congrArg (fun z => [V.ref a, V.int z, V.int 4]) e4, hS, hb, by omega, by omega, ?_⟩
  refine ⟨_, rfl, _, rfl, _, rfl, a, _, rfl, hS, fun p hp => ?_⟩
  refine ⟨p, b.take (b.length - 4), rfl, ?_, rfl, ?_⟩
  · refine SqL.of ?_
    rw [upd_same]
    show some (HO.lst (cutV (nv b) none (some (((nv b).length : Int) - 4)))) = _
    rw [e4, cutV_to]
  · have e := k _ (same_upd (o := .lst (cutV (nv b) none (some (((nv b).length : Int) - 4)))) hp)
    have e5 : okB b = decide (V.int ((Kge2.part b (b.length - 4) 4 : Nat) : Int) = V.int ((Kge2.crc (b.take (b.length - 4)) : Nat) : Int)) := by
      by_cases c6 : Kge2.part b (b.length - 4) 4 = Kge2.crc (b.take (b.length - 4))
      · rw [int_eq (by omega)]
        refine okB_good fun h => ?_
        unfold Bad at h
        rw [en, ez] at h
        rcases h with h | h | h | h | h | h
        · exact c1 h
        · exact c2 h
        · exact h c4
        · exact h c3
        · exact h c5
        · exact h c6
      · rw [int_ne (by omega)]
        exact okB_bad (.inr (.inr (.inr (.inr (.inr c6)))))
    rw [e5] at e
    exact e
end
end Um

set_option Elab.async false
set_option maxRecDepth 100000
set_option maxHeartbeats 2000000
namespace Um
open PySem PySem.Spec PyProof.Rows L2
open Kge2 (Abs Item)
/-! ### the end in the heap -/
theorem lk_here {k : Str} {v : V} {r : List (Str × V)} : List.lookup k ((k, v) :: r) = some v := by
  have e : (k == k) = true := beq_self_eq_true k
  simp only [List.lookup, e]
theorem lk_past {k g : Str} {v : V} {r : List (Str × V)} (h : (k == g) = false) : List.lookup k ((g, v) :: r) = List.lookup k r := by
  simp only [List.lookup, h]
theorem put_here {f : Str} {v x : V} {r : List (Str × V)} : putF f v ((f, x) :: r) = (f, v) :: r := if_pos rfl
theorem put_past {f g : Str} {v x : V} {r : List (Str × V)} (h : ¬ g = f) : putF f v ((g, x) :: r) = (g, x) :: putF f v r := if_neg h
def eF (me other : Int) (w : V) (sent got : Int) : List (Str × V) := [("me", .int me), ("other", .int other), ("waiting", w), ("sent", .int sent), ("got", .int got)]
section
variable {me other sent got y : Int} {w u : V}
theorem eF_me : (eF me other w sent got).lookup ("me" : Str) = some (.int me) := lk_here
theorem eF_other : (eF me other w sent got).lookup ("other" : Str) = some (.int other) := (lk_past (by decide +kernel)).trans lk_here
theorem eF_waiting : (eF me other w sent got).lookup ("waiting" : Str) = some w := (lk_past (by decide +kernel)).trans ((lk_past (by decide +kernel)).trans lk_here)
theorem eF_sent : (eF me other w sent got).lookup ("sent" : Str) = some (.int sent) := (lk_past (by decide +kernel)).trans ((lk_past (by decide +kernel)).trans ((lk_past (by decide +kernel)).trans lk_here))
theorem eF_got : (eF me other w sent got).lookup ("got" : Str) = some (.int got) := (lk_past (by decide +kernel)).trans ((lk_past (by decide +kernel)).trans ((lk_past (by decide +kernel)).trans ((lk_past (by decide +kernel)).trans lk_here)))
theorem eF_none (m : Str) (h1 : (m == ("me" : Str)) = false) (h2 : (m == ("other" : Str)) = false) (h3 : (m == ("waiting" : Str)) = false) (h4 : (m == ("sent" : Str)) = false) (h5 : (m == ("got" : Str)) = false) : (eF me other w sent got).lookup m = none :=
  (lk_past h1).trans ((lk_past h2).trans ((lk_past h3).trans ((lk_past h4).trans ((lk_past h5).trans rfl))))
theorem eF_start : (eF me other w sent got).lookup ("start" : Str) = none := eF_none _ (by decide +kernel) (by decide +kernel) (by decide +kernel) (by decide +kernel) (by decide +kernel)
theorem eF_send : (eF me other w sent got).lookup ("send" : Str) = none := eF_none _ (by decide +kernel) (by decide +kernel) (by decide +kernel) (by decide +kernel) (by decide +kernel)
theorem eF_heard : (eF me other w sent got).lookup ("heard" : Str) = none := eF_none _ (by decide +kernel) (by decide +kernel) (by decide +kernel) (by decide +kernel) (by decide +kernel)
theorem eF_tick : (eF me other w sent got).lookup ("tick" : Str) = none := eF_none _ (by decide +kernel) (by decide +kernel) (by decide +kernel) (by decide +kernel) (by decide +kernel)
theorem eF_look : (eF me other w sent got).lookup ("look" : Str) = none := eF_none _ (by decide +kernel) (by decide +kernel) (by decide +kernel) (by decide +kernel) (by decide +kernel)
theorem eF_is_right : (eF me other w sent got).lookup ("is_right" : Str) = none := eF_none _ (by decide +kernel) (by decide +kernel) (by decide +kernel) (by decide +kernel) (by decide +kernel)
theorem eF_acknowledged : (eF me other w sent got).lookup ("acknowledged" : Str) = none := eF_none _ (by decide +kernel) (by decide +kernel) (by decide +kernel) (by decide +kernel) (by decide +kernel)
theorem eF_acknowledge : (eF me other w sent got).lookup ("acknowledge" : Str) = none := eF_none _ (by decide +kernel) (by decide +kernel) (by decide +kernel) (by decide +kernel) (by decide +kernel)
theorem eF_offer_from : (eF me other w sent got).lookup ("offer_from" : Str) = none := eF_none _ (by decide +kernel) (by decide +kernel) (by decide +kernel) (by decide +kernel) (by decide +kernel)
theorem eF_packet : (eF me other w sent got).lookup ("packet" : Str) = none := eF_none _ (by decide +kernel) (by decide +kernel) (by decide +kernel) (by decide +kernel) (by decide +kernel)
theorem eF_bare_packet : (eF me other w sent got).lookup ("bare_packet" : Str) = none := eF_none _ (by decide +kernel) (by decide +kernel) (by decide +kernel) (by decide +kernel) (by decide +kernel)
theorem put_me : putF "me" (.int y) (eF me other w sent got) = eF y other w sent got := put_here
theorem put_other : putF "other" (.int y) (eF me other w sent got) = eF me y w sent got := (put_past (by decide +kernel)).trans (congrArg _ put_here)
theorem put_waiting : putF "waiting" u (eF me other w sent got) = eF me other u sent got := (put_past (by decide +kernel)).trans (congrArg _ ((put_past (by decide +kernel)).trans (congrArg _ put_here)))
theorem put_sent : putF "sent" (.int y) (eF me other w sent got) = eF me other w y got := (put_past (by decide +kernel)).trans (congrArg _ ((put_past (by decide +kernel)).trans (congrArg _ ((put_past (by decide +kernel)).trans (congrArg _ put_here)))))
theorem put_got : putF "got" (.int y) (eF me other w sent got) = eF me other w sent y := (put_past (by decide +kernel)).trans (congrArg _ ((put_past (by decide +kernel)).trans (congrArg _ ((put_past (by decide +kernel)).trans (congrArg _ ((put_past (by decide +kernel)).trans (congrArg _ put_here)))))))
def eF1 (me : Int) : List (Str × V) := [("me", .int me)]
def eF2 (me other : Int) : List (Str × V) := [("me", .int me), ("other", .int other)]
def eF3 (me other : Int) (w : V) : List (Str × V) := [("me", .int me), ("other", .int other), ("waiting", w)]
def eF4 (me other : Int) (w : V) (sent : Int) : List (Str × V) := [("me", .int me), ("other", .int other), ("waiting", w), ("sent", .int sent)]
theorem put_new1 : putF "me" (.int me) [] = eF1 me := rfl
theorem put_new2 : putF "other" (.int other) (eF1 me) = eF2 me other := put_past (by decide +kernel)
theorem put_new3 : putF "waiting" w (eF2 me other) = eF3 me other w := (put_past (by decide +kernel)).trans (congrArg _ (put_past (by decide +kernel)))
theorem put_new4 : putF "sent" (.int sent) (eF3 me other w) = eF4 me other w sent := (put_past (by decide +kernel)).trans (congrArg _ ((put_past (by decide +kernel)).trans (congrArg _ (put_past (by decide +kernel)))))
theorem put_new5 : putF "got" (.int got) (eF4 me other w sent) = eF me other w sent got := (put_past (by decide +kernel)).trans (congrArg _ ((put_past (by decide +kernel)).trans (congrArg _ ((put_past (by decide +kernel)).trans (congrArg _ (put_past (by decide +kernel)))))))
theorem put_new : putF "got" (.int got) (putF "sent" (.int sent) (putF "waiting" w (putF "other" (.int other) (putF "me" (.int me) [])))) = eF me other w sent got := by
  rw [put_new1, put_new2, put_new3, put_new4, put_new5]
end
def eA (a : Abs) (w : Addr) : List (Str × V) := eF (a.me : Int) (a.other : Int) (.ref w) (a.sent : Int) (a.got : Int)
def EndAt (C : Addr) (H : Hp) (e w : Addr) (a : Abs) : Prop := ∃ (dx : Addr) (ts : List Addr), H e = some (.ins C dx (eA a w)) ∧ H w = some (.lst (ts.map V.ref)) ∧ Al (ItAt H) ts a.waiting
/-- all but the end itself stands -/
def Kept1 (e : Addr) (H H' : Hp) : Prop := ∀ b o, H b = some o → b ≠ e → H' b = some o
/-- all but the end itself and the list of what waits stands -/
def Kept (e w : Addr) (H H' : Hp) : Prop := ∀ b o, H b = some o → b ≠ e → b ≠ w → H' b = some o
theorem Kept1.kept {e w : Addr} {H H' : Hp} (h : Kept1 e H H') : Kept e w H H' := fun b o x y _ => h b o x y
theorem same1 {e : Addr} {H H' : Hp} (h : Same H H') : Kept1 e H H' := fun b o x _ => h b o x
theorem Kept1.trans {e : Addr} {H H1 H2 : Hp} (h : Kept1 e H H1) (k : Kept1 e H1 H2) : Kept1 e H H2 := fun b o x y => k b o (h b o x y) y
theorem kept1_upd {e : Addr} {H H1 : Hp} {o : HO} (h : Kept1 e H H1) : Kept1 e H (upd H1 e o) := fun b u x y => by
  rw [upd_ne y]
  exact h b u x y
theorem kept1_new {e p : Addr} {H : Hp} {o : HO} (h : H p = none) : Kept1 e H (upd H p o) := same1 (same_upd h)
theorem EndAt.same {C e w : Addr} {H H' : Hp} {a : Abs} (h : EndAt C H e w a) (s : Same H H') : EndAt C H' e w a := by
  obtain ⟨dx, ts, h1, h2, h3⟩ := h
  exact ⟨dx, ts, s _ _ h1, s _ _ h2, h3.mono fun t x q => s _ _ q⟩
/-- a call's end: the answer l is handed back, the end is then a -/
def Done (C e w : Addr) (H : Hp) (Q : VK) (a : Abs) (l : List Int) : Prop :=
  ∀ (H' : Hp) (p w' : Addr), EndAt C H' e w' a → (w' = w ∨ H w' = none) → Kept e w H H' → H p = none → H' p = some (.lst (iv l)) → Q (.ref p) H'
theorem free_upd {H : Hp} {a b : Addr} {o : HO} (h : upd H a o b = none) : H b = none := by
  unfold upd at h
  split at h
  · cases h
  · exact h
theorem Kept1.free {e q : Addr} {H H' : Hp} {o : HO} (h : Kept1 e H H') (he : H' e = some o) (hq : H' q = none) : H q = none := by
  cases z : H q with
  | none => rfl
  | some u =>
    by_cases c : q = e
    · rw [c, he] at hq
      cases hq
    · rw [h q u z c] at hq
      cases hq
def zero : Abs := { me := 0, other := 0 }
theorem tup_ne {H : Hp} {t e C dx : Addr} {fs : List (Str × V)} {x : Item} (h : ItAt H t x) (k : H e = some (.ins C dx fs)) : t ≠ e := ne_of h k (by intro z; cases z)
theorem lst_ne {H : Hp} {t e C dx : Addr} {fs : List (Str × V)} {xs : List V} (h : H t = some (.lst xs)) (k : H e = some (.ins C dx fs)) : t ≠ e := ne_of h k (by intro z; cases z)
theorem tup_ne_lst {H : Hp} {t l : Addr} {xs : List V} {x : Item} (h : ItAt H t x) (k : H l = some (.lst xs)) : t ≠ l := ne_of h k (by intro z; cases z)
/-- what waits stands where all but the end stands -/
theorem Kept1.items {C e dx : Addr} {H H' : Hp} {fs : List (Str × V)} {ts : List Addr} {l : List Item} (h : Kept1 e H H') (k : H e = some (.ins C dx fs)) (al : Al (ItAt H) ts l) : Al (ItAt H') ts l :=
  al.mono fun t x q => h t _ q (tup_ne q k)
end Um

set_option Elab.async false
set_option maxRecDepth 100000
set_option maxHeartbeats 2000000
namespace Um
open PySem PySem.Spec PyProof.Rows L2
open Kge2 (Abs Item)
section
variable {P : Program} {w : World} {K : PySem.W.Frag} {mg : Str → Option Value} {base : Heap} {C : Addr}
/-! ### __init__ -/
def spInit (C : Addr) : Sp := fun vs H Q _ => ∃ (p dx : Addr), vs = [.ref p] ∧ H p = some (.ins C dx []) ∧
  ∀ (H' : Hp) (l : Addr), EndAt C H' p l zero → H l = none → Kept1 p H H' → Q .non H'
theorem scInit : FnScope ["self"] ["self"] (defScope sInit) := ⟨rfl, rfl, rfl, by decide +kernel, rfl, by decide +kernel, by decide +kernel⟩
theorem ok_init {f : Addr} {fd : FuncData} (F : Fun K "__init__" "End.__init__" sInit f fd) (T : Txt K mg C) : FnOk P w K mg base CX0 1 f fd ["self"] (spInit C) := by
  refine F.ok scInit (fun vs H Q E h => ?_) (fun cdv A outer s H vs Q E hr h => ?_)
  · obtain ⟨p, dx, rfl, _⟩ := h
    rfl
  obtain ⟨p, dx, rfl, hp, k⟩ := h
  refine ⟨_, pss_cons (ps_fld (pv 0) pe_int rfl) (pss_cons (ps_fld (pv 0) pe_int rfl) (pss_cons (ps_fld (pv 0) (pe_lst pa_nil) rfl) (pss_cons (ps_fld (pv 0) pe_int rfl) (pss_one (ps_fld (pv 0) pe_int rfl))))), ?_⟩
  refine ⟨_, rfl, p, C, dx, [], rfl, hp, T.cl, T.nMe, (by show 0 < 1000; decide), ?_⟩
  refine ⟨_, rfl, p, C, dx, _, rfl, upd_same, T.cl, T.nOther, (by show 1 < 1000; decide), ?_⟩
  refine ⟨Nat.zero_le _, fun l hl => ?_⟩
  have lp : p ≠ l := ne_of_none upd_same hl
  have hl0 : H l = none := by
    rw [upd_ne lp.symm, upd_ne lp.symm] at hl
    exact hl
  refine ⟨_, rfl, p, C, dx, _, rfl, (upd_ne lp).trans upd_same, T.cl, T.nWaiting, (by show 2 < 1000; decide), ?_⟩
  refine ⟨_, rfl, p, C, dx, _, rfl, upd_same, T.cl, T.nSent, (by show 3 < 1000; decide), ?_⟩
  refine ⟨_, rfl, p, C, dx, _, rfl, upd_same, T.cl, T.nGot, (by show 4 < 1000; decide), ?_⟩
  refine k _ l ⟨dx, [], upd_same.trans (congrArg (fun q => some (HO.ins C dx q)) put_new), ?_, Al.nil⟩ hl0 ?_
  · rw [upd_ne lp.symm, upd_ne lp.symm, upd_ne lp.symm, upd_same]
    rfl
  · intro b o hb hn
    rw [upd_ne hn, upd_ne hn, upd_ne hn, upd_ne (ne_of_none hb hl0), upd_ne hn, upd_ne hn]
    exact hb
/-! ### start -/
def startR (a : Abs) (x y : Nat) : Abs × List Int := if 255 < x ∨ 255 < y ∨ x = y then (a, [-22, 0]) else ({ me := x, other := y }, [0, 0])
def spStart (C : Addr) : Sp := fun vs H Q _ => ∃ (e l : Addr) (a : Abs) (x y : Nat), vs = [.ref e, .int (x : Int), .int (y : Int)] ∧ EndAt C H e l a ∧ Done C e l H Q (startR a x y).1 (startR a x y).2
theorem scStart : FnScope ["self", "me", "other"] ["self", "me", "other"] (defScope sStart) := ⟨rfl, rfl, rfl, by decide +kernel, rfl, by decide +kernel, by decide +kernel⟩
theorem ok_start {f : Addr} {fd : FuncData} (F : Fun K "start" "End.start" sStart f fd) (T : Txt K mg C) (GR : Cal P w K mg base "refusal" 1 ["number"] spRefusal) (GA : Cal P w K mg base "answer_with" 1 ["things"] spAnswer) :
    FnOk P w K mg base CX0 2 f fd ["self", "me", "other"] (spStart C) := by
  refine F.ok scStart (fun vs H Q E h => ?_) (fun cdv A outer s H vs Q E hr h => ?_)
  · obtain ⟨e, l, a, x, y, rfl, _⟩ := h
    rfl
  obtain ⟨e, l, a, x, y, rfl, hE, k⟩ := h
  refine ⟨_, pss_cons (ps_if (PW.pt (pw_or (pt_cmpR op_gt (pv 1) (pe_kon rfl T.highest) (nomark _)) (pw_or (pt_cmpR op_gt (pv 2) (pe_kon rfl T.highest) (nomark _)) (pw_or1 (pt_cmpR op_eq (pv 1) (pv 2) (nomark _)))))) (pss_one (ps_ret (pe_cal GR hr rfl (pa_cons (pe_kon rfl T.rValue) pa_nil)))) pss_nil)
    (pss_cons (ps_fld (pv 0) (pv 1) rfl) (pss_cons (ps_fld (pv 0) (pv 2) rfl) (pss_cons (ps_fld (pv 0) (pe_lst pa_nil) rfl) (pss_cons (ps_fld (pv 0) pe_int rfl) (pss_cons (ps_fld (pv 0) pe_int rfl)
    (pss_one (ps_ret (pe_cal GA hr rfl (pa_cons (pe_lst pa_nil) pa_nil))))))))), ?_⟩
  have no : (255 < x ∨ 255 < y ∨ x = y) → ∀ (H' : Hp) (p : Addr), Same H H' → H p = none → H' p = some (.lst (iv [-22, 0])) → Q (.ref p) H' := fun c H' p s np hp => by
    unfold startR at k
    rw [if_pos c] at k
    exact k H' p l (hE.same s) (.inl rfl) (same1 s).kept np hp
  refine ⟨_, rfl, _, _, rfl, rfl, _, rfl, ?_⟩
  by_cases c1 : 255 < x
  · exact if_true_of (decide_eq_true (by omega)) (if_true_of rfl ⟨-22, rfl, no (.inl c1)⟩)
  refine if_false_of (decide_eq_false (by omega)) ?_
  refine ⟨_, rfl, _, _, rfl, rfl, _, rfl, ?_⟩
  by_cases c2 : 255 < y
  · exact if_true_of (decide_eq_true (by omega)) (if_true_of rfl ⟨-22, rfl, no (.inr (.inl c2))⟩)
  refine if_false_of (decide_eq_false (by omega)) ?_
  refine ⟨_, rfl, _, rfl, rfl, _, rfl, ?_⟩
  by_cases c3 : x = y
  · exact if_true_of (int_eq (by omega)) ⟨-22, rfl, no (.inr (.inr c3))⟩
  refine if_false_of (int_ne (by omega)) ?_
  unfold startR at k
  rw [if_neg (by omega)] at k
  obtain ⟨dx, ts, h1, h2, h3⟩ := hE
  refine ⟨_, rfl, _, rfl, e, C, dx, _, rfl, h1, T.cl, T.nMe, (by show 5 < 1000; decide), ?_⟩
  refine ⟨_, rfl, _, rfl, e, C, dx, _, rfl, upd_same, T.cl, T.nOther, (by show 5 < 1000; decide), ?_⟩
  refine ⟨Nat.zero_le _, fun n hn => ?_⟩
  have ne : e ≠ n := ne_of_none upd_same hn
  have hn0 : H n = none := by
    rw [upd_ne ne.symm, upd_ne ne.symm] at hn
    exact hn
  refine ⟨_, rfl, e, C, dx, _, rfl, (upd_ne ne).trans upd_same, T.cl, T.nWaiting, (by show 5 < 1000; decide), ?_⟩
  refine ⟨_, rfl, e, C, dx, _, rfl, upd_same, T.cl, T.nSent, (by show 5 < 1000; decide), ?_⟩
  refine ⟨_, rfl, e, C, dx, _, rfl, upd_same, T.cl, T.nGot, (by show 5 < 1000; decide), ?_⟩
  refine ⟨Nat.zero_le _, fun r hr2 => ⟨r, [], [], rfl, upd_same, Al.nil, (by show 2 ≤ sizeLine; decide), fun H' p s np hp => ?_⟩⟩
  refine k H' p n ⟨dx, [], ?_, ?_, Al.nil⟩ (.inr hn0) ?_ (free_upd (free_upd (free_upd (free_upd (free_upd (free_upd (free_upd np))))))) hp
  · refine s _ _ ?_
    rw [upd_ne (ne_of_none upd_same hr2), upd_same]
    unfold eA
    rw [put_me, put_other, put_waiting, put_sent, put_got]
    rfl
  · refine s _ _ ?_
    have nr : n ≠ r := by
      refine ne_of_none (o := .lst []) ?_ hr2
      rw [upd_ne ne.symm, upd_ne ne.symm, upd_ne ne.symm, upd_same]
    rw [upd_ne nr, upd_ne ne.symm, upd_ne ne.symm, upd_ne ne.symm, upd_same]
    rfl
  · intro b o hb he _
    refine s _ _ ?_
    have q : ∀ (u1 u2 u3 u4 u5 u6 : HO), (upd (upd (upd (upd (upd (upd H e u1) e u2) n u3) e u4) e u5) e u6) b = some o := fun u1 u2 u3 u4 u5 u6 => by
      rw [upd_ne he, upd_ne he, upd_ne he, upd_ne (ne_of_none hb hn0), upd_ne he, upd_ne he]
      exact hb
    rw [upd_ne (ne_of_none (q _ _ _ _ _ _) hr2)]
    exact q _ _ _ _ _ _
/-! ### send -/
def sendR (a : Abs) (k x y : Nat) : Abs × List Int := if 255 < k then (a, [-22, 0]) else if 64 ≤ a.waiting.length then (a, [-11, 0]) else (sentA a ⟨k, x, y⟩, [0, 0])
def spSend (C : Addr) : Sp := fun vs H Q _ => ∃ (e l : Addr) (a : Abs) (n x y : Nat), vs = [.ref e, .int (n : Int), .int (x : Int), .int (y : Int)] ∧ EndAt C H e l a ∧ Done C e l H Q (sendR a n x y).1 (sendR a n x y).2
theorem scSend : FnScope ["self", "kind", "a", "b"] ["self", "kind", "a", "b"] (defScope sSend) := ⟨rfl, rfl, rfl, by decide +kernel, rfl, by decide +kernel, by decide +kernel⟩
theorem ok_send {f : Addr} {fd : FuncData} (F : Fun K "send" "End.send" sSend f fd) (T : Txt K mg C) (GR : Cal P w K mg base "refusal" 1 ["number"] spRefusal) (GA : Cal P w K mg base "answer_with" 1 ["things"] spAnswer) :
    FnOk P w K mg base CX0 2 f fd ["self", "kind", "a", "b"] (spSend C) := by
  refine F.ok scSend (fun vs H Q E h => ?_) (fun cdv A outer s H vs Q E hr h => ?_)
  · obtain ⟨e, l, a, n, x, y, rfl, _⟩ := h
    rfl
  obtain ⟨e, l, a, n, x, y, rfl, hE, k⟩ := h
  refine ⟨_, pss_cons (ps_if (pt_cmpR op_gt (pv 1) (pe_kon rfl T.highest) (nomark _)) (pss_one (ps_ret (pe_cal GR hr rfl (pa_cons (pe_kon rfl T.rValue) pa_nil)))) pss_nil)
    (pss_cons (ps_if (pt_cmpR op_ge (pe_callB call_len_seq (by rfl) T.len PySem.boot_len (pa_cons (pe_fld (pv 0) rfl) pa_nil)) (pe_kon rfl T.mostW) (nomark _)) (pss_one (ps_ret (pe_cal GR hr rfl (pa_cons (pe_kon rfl T.rFull) pa_nil)))) pss_nil)
    (pss_cons (ps_expr (pe_bm PySem.F.plainAttrs_list PySem.F.slot_list_append PySem.F.type_list_append mt_append (pe_fld (pv 0) rfl) (pa_cons (pe_tup (pa_cons (pv 1) (pa_cons (pv 2) (pa_cons (pv 3) pa_nil)))) pa_nil)))
    (pss_cons (ps_fld (pv 0) (pe_op op_add (pe_fld (pv 0) rfl) pe_int) rfl)
    (pss_one (ps_ret (pe_cal GA hr rfl (pa_cons (pe_lst pa_nil) pa_nil))))))), ?_⟩
  unfold sendR at k
  refine ⟨_, rfl, _, _, rfl, rfl, _, rfl, ?_⟩
  by_cases c1 : 255 < n
  · rw [if_pos c1] at k
    exact if_true_of (decide_eq_true (by omega)) ⟨-22, rfl, fun H' p s np hp => k H' p l (hE.same s) (.inl rfl) (same1 s).kept np hp⟩
  refine if_false_of (decide_eq_false (by omega)) ?_
  rw [if_neg c1] at k
  have hE' := hE
  obtain ⟨dx, ts, h1, h2, h3⟩ := hE
  have hl : (ts.map V.ref).length = a.waiting.length := by rw [List.length_map, h3.1]
  refine ⟨_, rfl, e, C, dx, _, _, rfl, h1, T.cl, T.nWaiting, eF_waiting, l, _, rfl, .inl (SqL.of h2), _, _, rfl, rfl, _, rfl, ?_⟩
  by_cases c2 : 64 ≤ a.waiting.length
  · rw [if_pos c2] at k
    exact if_true_of (decide_eq_true (by rw [hl]; omega)) ⟨-11, rfl, fun H' p s np hp => k H' p l (hE'.same s) (.inl rfl) (same1 s).kept np hp⟩
  refine if_false_of (decide_eq_false (by rw [hl]; omega)) ?_
  rw [if_neg c2] at k
  refine ⟨_, rfl, e, C, dx, _, _, rfl, h1, T.cl, T.nWaiting, eF_waiting, .inl ⟨rfl, _, SqL.of h2⟩, ?_⟩
  refine ⟨_, rfl, _, rfl, _, rfl, (by show 3 ≤ sizeLine; decide), fun t ht => ?_⟩
  have lt : l ≠ t := ne_of_none h2 ht
  have et : e ≠ t := ne_of_none h1 ht
  have le : l ≠ e := lst_ne h2 h1
  refine ⟨l, _, _, rfl, rfl, (upd_ne lt).trans h2, (by rw [hl]; exact Nat.lt_of_lt_of_le (Nat.lt_of_not_le c2) (by decide)), ?_⟩
  have h1' : ∀ (u v : HO), upd (upd H t u) l v e = some (.ins C dx (eA a l)) := fun u v => by
    rw [upd_ne le.symm, upd_ne et]
    exact h1
  refine ⟨_, rfl, e, C, dx, _, _, rfl, h1' _ _, T.cl, T.nSent, eF_sent, _, _, rfl, rfl, _, rfl, e, C, dx, _, rfl, h1' _ _, T.cl, T.nSent, (by show 5 < 1000; decide), ?_⟩
  refine ⟨Nat.zero_le _, fun r hr2 => ⟨r, [], [], rfl, upd_same, Al.nil, (by show 2 ≤ sizeLine; decide), fun H' p s np hp => ?_⟩⟩
  have base0 : ∀ (b : Addr) (o : HO), H b = some o → b ≠ e → b ≠ l → ∀ (u v x : HO), upd (upd (upd H t u) l v) e x b = some o := fun b o hb he hl u v x => by
    rw [upd_ne he, upd_ne hl, upd_ne (ne_of_none hb ht)]
    exact hb
  refine k H' p l ⟨dx, ts ++ [t], ?_, ?_, Al.snoc ?_ ?_⟩ (.inl rfl) ?_ (free_upd (free_upd (free_upd (free_upd np)))) hp
  · refine s _ _ ?_
    rw [upd_ne (ne_of_none upd_same hr2), upd_same]
    unfold eA
    rw [put_sent]
    rfl
  · refine s _ _ ?_
    have q : ∀ (u x : HO), upd (upd (upd H t u) l (.lst (ts.map V.ref ++ [V.ref t]))) e x l = some (.lst ((ts ++ [t]).map V.ref)) := fun u x => by
      rw [upd_ne le, upd_same, List.map_append]
      rfl
    rw [upd_ne (ne_of_none (q _ _) hr2)]
    exact q _ _
  · refine h3.mono fun t2 x2 q => ?_
    refine s _ _ ?_
    have q2 := base0 t2 _ q (tup_ne q h1) (tup_ne_lst q h2)
    rw [upd_ne (ne_of_none (q2 _ _ _) hr2)]
    exact q2 _ _ _
  · refine s _ _ ?_
    have q' : ∀ (v z : HO), upd (upd (upd H t (.tup [V.int (n : Int), V.int (x : Int), V.int (y : Int)])) l v) e z t = some (.tup (tv ⟨n, x, y⟩)) := fun v z => by
      rw [upd_ne et.symm, upd_ne lt.symm, upd_same]
      rfl
    rw [upd_ne (ne_of_none (q' _ _) hr2)]
    exact q' _ _
  · intro b o hb he hl2
    refine s _ _ ?_
    rw [upd_ne (ne_of_none (base0 b o hb he hl2 _ _ _) hr2)]
    exact base0 b o hb he hl2 _ _ _
/-! ### look -/
def spLook (C : Addr) : Sp := fun vs H Q _ => ∃ (e l : Addr) (a : Abs), vs = [.ref e] ∧ EndAt C H e l a ∧ Done C e l H Q a [0, 0, (a.waiting.length : Int), (a.sent : Int), (a.got : Int)]
theorem scLook : FnScope ["self", "answer"] ["self"] (defScope sLook) := ⟨rfl, rfl, rfl, by decide +kernel, rfl, by decide +kernel, by decide +kernel⟩
theorem ok_look {f : Addr} {fd : FuncData} (F : Fun K "look" "End.look" sLook f fd) (T : Txt K mg C) (GA : Cal P w K mg base "answer_with" 1 ["things"] spAnswer) : FnOk P w K mg base CX0 2 f fd ["self"] (spLook C) := by
  refine F.ok scLook (fun vs H Q E h => ?_) (fun cdv A outer s H vs Q E hr h => ?_)
  · obtain ⟨e, l, a, rfl, _⟩ := h
    rfl
  obtain ⟨e, l, a, rfl, hE, k⟩ := h
  refine ⟨_, pss_cons (ps_set (i := 1) scLook.nd rfl (Or.inl rfl) (pe_cal GA hr rfl (pa_cons (pe_lst pa_nil) pa_nil)))
    (pss_cons (ps_expr (pe_bm PySem.F.plainAttrs_list PySem.F.slot_list_extend PySem.F.type_list_extend mt_extend (pv 1) (pa_cons (pe_lst (pa_cons (pe_callB call_len_seq (by rfl) T.len PySem.boot_len (pa_cons (pe_fld (pv 0) rfl) pa_nil)) (pa_cons (pe_fld (pv 0) rfl) (pa_cons (pe_fld (pv 0) rfl) pa_nil)))) pa_nil)))
    (pss_one (ps_ret (pv 1)))), ?_⟩
  refine ⟨Nat.zero_le _, fun r hr2 => ⟨r, [], [], rfl, upd_same, Al.nil, (by show 2 ≤ sizeLine; decide), fun H1 p s1 np hp => ?_⟩⟩
  have s2 : Same H H1 := (same_upd hr2).trans s1
  have np0 : H p = none := (same_upd hr2).free np
  obtain ⟨dx, ts, h1, h2, h3⟩ := hE.same s2
  have hl : (ts.map V.ref).length = a.waiting.length := by rw [List.length_map, h3.1]
  refine ⟨_, rfl, .inl ⟨rfl, _, SqL.of hp⟩, _, rfl, e, C, dx, _, _, rfl, h1, T.cl, T.nWaiting, eF_waiting, l, _, rfl, .inl (SqL.of h2), _, rfl, e, C, dx, _, _, rfl, h1, T.cl, T.nSent, eF_sent, _, rfl, e, C, dx, _, _, rfl, h1, T.cl, T.nGot, eF_got, (by show 3 ≤ sizeLine; decide), fun n hn => ?_⟩
  have pn : p ≠ n := ne_of_none hp hn
  refine ⟨p, n, _, _, rfl, rfl, (upd_ne pn).trans hp, upd_same, (by show 2 + 3 ≤ sizeLine; decide), ?_⟩
  have s3 : ∀ (u v : HO), Same H (upd (upd H1 n u) p v) := fun u v b o hb => by
    rw [upd_ne (ne_of_none hb np0), upd_ne (ne_of_none (s2 _ _ hb) hn)]
    exact s2 _ _ hb
  refine ⟨_, rfl, k _ p l (hE.same (s3 _ _)) (.inl rfl) (same1 (s3 _ _)).kept np0 ?_⟩
  rw [upd_same, hl]
  rfl
end
end Um

set_option Elab.async false
set_option maxRecDepth 100000
set_option maxHeartbeats 2000000
namespace Um
open PySem PySem.Spec PyProof.Rows L2
open Kge2 (Abs Item)
section
variable {P : Program} {w : World} {K : PySem.W.Frag} {mg : Str → Option Value} {base : Heap} {C : Addr}
/-! ### is_right -/
def spRight (K : PySem.W.Frag) (C : Addr) : Sp := fun vs H Q _ => ∃ (e l m : Addr) (a : Abs) (b : List Nat), vs = [.ref e, .ref m] ∧ EndAt C H e l a ∧ SqL K H m (nv b) ∧ (∀ x ∈ b, x < 256) ∧ ∀ (H' : Hp), Same H H' → Q (.bl (rightB a b)) H'
theorem scRight : FnScope ["self", "message"] ["self", "message"] (defScope sRight) := ⟨rfl, rfl, rfl, by decide +kernel, rfl, by decide +kernel, by decide +kernel⟩
theorem ok_right {f : Addr} {fd : FuncData} (F : Fun K "is_right" "End.is_right" sRight f fd) (T : Txt K mg C) (GF : Cal P w K mg base "is_well_formed" 2 ["message"] (spFormed K)) : FnOk P w K mg base CX0 3 f fd ["self", "message"] (spRight K C) := by
  refine F.ok scRight (fun vs H Q E h => ?_) (fun cdv A outer s H vs Q E hr h => ?_)
  · obtain ⟨e, l, m, a, b, rfl, _⟩ := h
    rfl
  obtain ⟨e, l, m, a, b, rfl, hE, hS, hb, k⟩ := h
  refine ⟨_, pss_one (ps_ret (pe_and (pe_cal GF hr rfl (pa_cons (pv 1) pa_nil))
    (pe_and (pe_cmpR op_eq (pe_ix ix_list (pv 1) pe_int (fun _ _ => rfl)) (pe_fld (pv 0) rfl) (nomark _))
    (pe_one (pe_cmpR op_eq (pe_ix ix_list (pv 1) pe_int (fun _ _ => rfl)) (pe_fld (pv 0) rfl) (nomark _)))))), ?_⟩
  refine ⟨_, rfl, m, b, rfl, hS, hb, fun H1 s1 => ⟨_, rfl, ?_⟩⟩
  have k1 := k H1 s1
  unfold rightB at k1
  cases hok : okB b with
  | false =>
    refine if_false_of rfl ?_
    rw [hok] at k1
    exact k1
  | true =>
    refine if_true_of rfl ?_
    rw [hok] at k1
    have hg := good_len (okB_true hok)
    obtain ⟨x, hx⟩ := get_lt (l := b) (i := 0) (by omega)
    obtain ⟨y, hy⟩ := get_lt (l := b) (i := 1) (by omega)
    have ex := getD_of hx
    have ey := getD_of hy
    obtain ⟨dx, ts, h1, h2, h3⟩ := hE.same s1
    have hS1 := s1.seq hS
    have k2 : Q (.bl ((x == a.other) && (y == a.me))) H1 := by
      have e : Kge2.isRight a (msgOf b) = ((x == a.other) && (y == a.me)) := by
        show ((b.getD 0 0 == a.other) && (b.getD 1 0 == a.me)) = _
        rw [ex, ey]
      rw [e, Bool.true_and] at k1
      exact k1
    refine ⟨_, rfl, m, nv b, _, V.int (x : Int), rfl, rfl, hS1, at_of (j := 0) rfl (nv_at hx), _, rfl, e, C, dx, _, _, rfl, h1, T.cl, T.nOther, eF_other, rfl, _, rfl, ?_⟩
    by_cases c : x = a.other
    · refine if_true_of (int_eq (by omega)) ?_
      refine ⟨_, rfl, m, nv b, _, V.int (y : Int), rfl, rfl, hS1, at_of (j := 1) rfl (nv_at hy), _, rfl, e, C, dx, _, _, rfl, h1, T.cl, T.nMe, eF_me, rfl, ?_⟩
      rw [beq_iff_eq.mpr c, Bool.true_and] at k2
      have e : decide (V.int (y : Int) = V.int (a.me : Int)) = (y == a.me) := by
        by_cases q : y = a.me
        · rw [int_eq (by omega), beq_iff_eq.mpr q]
        · rw [int_ne (by omega)]
          symm
          simpa using q
      rw [← e] at k2
      exact k2
    · refine if_false_of (int_ne (by omega)) ?_
      have e : (x == a.other) = false := by simpa using c
      rw [e, Bool.false_and] at k2
      exact k2
/-! ### acknowledged -/
def spAcked (C : Addr) : Sp := fun vs H Q _ => ∃ (e l : Addr) (a : Abs), vs = [.ref e] ∧ EndAt C H e l a ∧ Good a ∧ Q (.int ((a.sent - a.waiting.length : Nat) : Int)) H
theorem scAcked : FnScope ["self"] ["self"] (defScope sAcked) := ⟨rfl, rfl, rfl, by decide +kernel, rfl, by decide +kernel, by decide +kernel⟩
theorem ok_acked {f : Addr} {fd : FuncData} (F : Fun K "acknowledged" "End.acknowledged" sAcked f fd) (T : Txt K mg C) : FnOk P w K mg base CX0 1 f fd ["self"] (spAcked C) := by
  refine F.ok scAcked (fun vs H Q E h => ?_) (fun cdv A outer s H vs Q E hr h => ?_)
  · obtain ⟨e, l, a, rfl, _⟩ := h
    rfl
  obtain ⟨e, l, a, rfl, ⟨dx, ts, h1, h2, h3⟩, g, k⟩ := h
  refine ⟨_, pss_one (ps_ret (pe_op op_sub (pe_fld (pv 0) rfl) (pe_callB call_len_seq (by rfl) T.len PySem.boot_len (pa_cons (pe_fld (pv 0) rfl) pa_nil)))), ?_⟩
  have hl : (ts.map V.ref).length = a.waiting.length := by rw [List.length_map, h3.1]
  refine ⟨_, rfl, e, C, dx, _, _, rfl, h1, T.cl, T.nSent, eF_sent, _, rfl, e, C, dx, _, _, rfl, h1, T.cl, T.nWaiting, eF_waiting, l, _, rfl, .inl (SqL.of h2), _, _, rfl, rfl, ?_⟩
  have e1 : (a.sent : Int) - ((ts.map V.ref).length : Int) = ((a.sent - a.waiting.length : Nat) : Int) := by
    rw [hl]
    have := g.sent
    omega
  rw [← e1] at k
  exact k
/-! ### acknowledge -/
theorem cutV_from (xs : List V) (n : Nat) : cutV xs (some (n : Int)) none = xs.drop n := by
  unfold cutV
  rw [HT.sIx_none, HT.sIx_nat]
  by_cases h : n ≤ xs.length
  · rw [Nat.min_eq_left h, List.take_of_length_le (by rw [List.length_drop]; exact Nat.le_refl _)]
  · rw [Nat.min_eq_right (by omega), List.drop_length, List.drop_eq_nil_of_le (by omega), List.take_nil]
def spAck (C : Addr) : Sp := fun vs H Q _ => ∃ (e l : Addr) (a : Abs) (n : Nat), vs = [.ref e, .int (n : Int)] ∧ EndAt C H e l a ∧ Good a ∧
  ∀ (H' : Hp) (l' : Addr), EndAt C H' e l' (Kge2.acked a n) → (l' = l ∨ H l' = none) → Kept1 e H H' → Q .non H'
theorem scAck : FnScope ["self", "number", "before"] ["self", "number"] (defScope sAck) := ⟨rfl, rfl, rfl, by decide +kernel, rfl, by decide +kernel, by decide +kernel⟩
theorem ok_ack {f : Addr} {fd : FuncData} (F : Fun K "acknowledge" "End.acknowledge" sAck f fd) (T : Txt K mg C) (GK : MCal P w K mg base C "acknowledged" 1 ["self"] (spAcked C)) : FnOk P w K mg base CX0 2 f fd ["self", "number"] (spAck C) := by
  refine F.ok scAck (fun vs H Q E h => ?_) (fun cdv A outer s H vs Q E hr h => ?_)
  · obtain ⟨e, l, a, n, rfl, _⟩ := h
    rfl
  obtain ⟨e, l, a, n, rfl, hE, g, k⟩ := h
  refine ⟨_, pss_cons (ps_set (i := 2) scAck.nd rfl (Or.inl rfl) (pe_mcal0 GK T.cl hr (pv 0)))
    (pss_one (ps_if (PW.pt (pw_and (pt_cmpR op_lt (pv 2) (pv 1) (nomark _)) (pw_and1 (pt_cmpR op_le (pv 1) (pe_fld (pv 0) rfl) (nomark _)))))
      (pss_one (ps_fld (pv 0) (pe_slice sl_list (pe_fld (pv 0) rfl) (po_some (pe_op op_sub (pv 1) (pv 2))) po_none) rfl)) pss_nil)), ?_⟩
  have hE' := hE
  obtain ⟨dx, ts, h1, h2, h3⟩ := hE
  refine ⟨_, rfl, e, dx, _, rfl, h1, eF_acknowledged, e, l, a, rfl, hE', g, ?_⟩
  refine ⟨_, rfl, _, rfl, _, _, rfl, rfl, _, rfl, ?_⟩
  by_cases c1 : a.sent - a.waiting.length < n
  case neg =>
    refine if_false_of (decide_eq_false (by omega)) ?_
    rw [acked_old (by omega)] at k
    exact if_false_of rfl (k H l hE' (.inl rfl) (same1 (Same.refl H)))
  refine if_true_of (decide_eq_true (by omega)) ?_
  refine ⟨_, rfl, _, rfl, e, C, dx, _, _, rfl, h1, T.cl, T.nSent, eF_sent, _, _, rfl, rfl, _, rfl, ?_⟩
  by_cases c2 : n ≤ a.sent
  case neg =>
    refine if_false_of (decide_eq_false (by omega)) ?_
    rw [acked_old (by omega)] at k
    exact k H l hE' (.inl rfl) (same1 (Same.refl H))
  refine if_true_of (decide_eq_true (by omega)) ?_
  rw [acked_new c2] at k
  refine ⟨_, rfl, e, C, dx, _, _, rfl, h1, T.cl, T.nWaiting, eF_waiting, _, rfl, _, rfl, _, _, rfl, rfl, _, rfl, l, _, rfl, SqL.of h2, fun p hp => ?_⟩
  have ep : e ≠ p := ne_of_none h1 hp
  refine ⟨_, rfl, e, C, dx, _, rfl, (upd_ne ep).trans h1, T.cl, T.nWaiting, (by show 5 < 1000; decide), ?_⟩
  refine k _ p ⟨dx, ts.drop (n - (a.sent - a.waiting.length)), upd_same.trans (congrArg (fun q => some (HO.ins C dx q)) put_waiting), ?_, ?_⟩ (.inr hp) (kept1_upd (kept1_new hp))
  · rw [upd_ne ep.symm, upd_same]
    have e1 : (n : Int) - ((a.sent - a.waiting.length : Nat) : Int) = ((n - (a.sent - a.waiting.length) : Nat) : Int) := by omega
    show some (HO.lst (cutV (ts.map V.ref) (some ((n : Int) - ((a.sent - a.waiting.length : Nat) : Int))) none)) = _
    rw [e1, cutV_from, ← List.map_drop]
  · exact Kept1.items (kept1_upd (kept1_new hp)) h1 (h3.drop _)
end
end Um

set_option Elab.async false
set_option maxRecDepth 100000
set_option maxHeartbeats 2000000
namespace Um
open PySem PySem.Spec PyProof.Rows L2
open Kge2 (Abs Item)
section
variable {P : Program} {w : World} {K : PySem.W.Frag} {mg : Str → Option Value} {base : Heap} {C : Addr}
/-! ### packet -/
theorem cutV_refs (ts : List Addr) (n : Nat) : cutV (ts.map V.ref) none (some (n : Int)) = (ts.take n).map V.ref := by
  unfold cutV
  rw [HT.sIx_none, HT.sIx_nat, List.drop_zero, Nat.sub_zero, List.length_map, List.map_take]
  by_cases h : n ≤ ts.length
  · rw [Nat.min_eq_left h]
  · rw [Nat.min_eq_right (by omega), List.take_of_length_le (by rw [List.length_map]; exact Nat.le_refl _), List.take_of_length_le (by rw [List.length_map]; omega)]
def spPacket (C : Addr) : Sp := fun vs H Q _ => ∃ (e l : Addr) (a : Abs), vs = [.ref e] ∧ EndAt C H e l a ∧ Good a ∧ a.waiting.isEmpty = false ∧
  ∀ (H' : Hp) (p : Addr), Same H H' → H p = none → H' p = some (.lst (nv (Kge2.packet a))) → Q (.ref p) H'
theorem scPacket : FnScope ["self", "items"] ["self"] (defScope sPacket) := ⟨rfl, rfl, rfl, by decide +kernel, rfl, by decide +kernel, by decide +kernel⟩
theorem packet_is {a : Abs} (h : a.waiting.isEmpty = false) : Kge2.packet a = Kge2.written ⟨a.me, a.other, a.got, a.sent - a.waiting.length + 1, a.waiting.take 16⟩ := by
  unfold Kge2.packet
  have e : (a.waiting.take 16).isEmpty = false := by
    cases q : a.waiting with
    | nil =>
      rw [q] at h
      cases h
    | cons x r => rfl
  show Kge2.written ⟨a.me, a.other, a.got, if (a.waiting.take 16).isEmpty = true then 0 else a.sent - a.waiting.length + 1, a.waiting.take 16⟩ = _
  rw [e, if_neg (by decide)]
theorem ok_packet {f : Addr} {fd : FuncData} (F : Fun K "packet" "End.packet" sPacket f fd) (T : Txt K mg C) (GM : Cal P w K mg base "message_of" 2 ["sender", "receiver", "got", "first", "items"] spMessage) (GK : MCal P w K mg base C "acknowledged" 1 ["self"] (spAcked C)) :
    FnOk P w K mg base CX0 3 f fd ["self"] (spPacket C) := by
  refine F.ok scPacket (fun vs H Q E h => ?_) (fun cdv A outer s H vs Q E hr h => ?_)
  · obtain ⟨e, l, a, rfl, _⟩ := h
    rfl
  obtain ⟨e, l, a, rfl, hE, g, hne, k⟩ := h
  have hr1 : Room 1 _ := hr.mono (by decide)
  refine ⟨_, pss_cons (ps_set (i := 1) scPacket.nd rfl (Or.inl rfl) (pe_slice sl_list (pe_fld (pv 0) rfl) po_none (po_some (pe_kon rfl T.mostM))))
    (pss_one (ps_ret (pe_cal GM hr rfl (pa_cons (pe_fld (pv 0) rfl) (pa_cons (pe_fld (pv 0) rfl) (pa_cons (pe_fld (pv 0) rfl) (pa_cons (pe_op op_add (pe_mcal0 GK T.cl hr1 (pv 0)) pe_int) (pa_cons (pv 1) pa_nil)))))))), ?_⟩
  obtain ⟨dx, ts, h1, h2, h3⟩ := hE
  refine ⟨_, rfl, e, C, dx, _, _, rfl, h1, T.cl, T.nWaiting, eF_waiting, _, rfl, l, _, rfl, SqL.of h2, fun p hp => ?_⟩
  have s1 : ∀ o, Same H (upd H p o) := fun o => same_upd hp
  have h1' : ∀ o, upd H p o e = some (.ins C dx (eA a l)) := fun o => s1 o _ _ h1
  refine ⟨_, rfl, e, C, dx, _, _, rfl, h1' _, T.cl, T.nMe, eF_me, _, rfl, e, C, dx, _, _, rfl, h1' _, T.cl, T.nOther, eF_other, _, rfl, e, C, dx, _, _, rfl, h1' _, T.cl, T.nGot, eF_got, ?_⟩
  refine ⟨_, rfl, e, dx, _, rfl, h1' _, eF_acknowledged, e, l, a, rfl, ⟨dx, ts, h1' _, s1 _ _ _ h2, h3.mono fun t x q => s1 _ _ _ q⟩, g, _, _, rfl, rfl, _, rfl, ?_⟩
  refine ⟨⟨a.me, a.other, a.got, a.sent - a.waiting.length + 1, a.waiting.take 16⟩, p, ts.take 16, rfl, ?_, (h3.take 16).mono fun t x q => s1 _ _ _ q, ?_, fun H' q s2 nq hq => ?_⟩
  · rw [upd_same]
    show some (HO.lst (cutV (ts.map V.ref) none (some ((16 : Nat) : Int)))) = _
    rw [cutV_refs]
  · show (a.waiting.take 16).length ≤ 64
    rw [List.length_take]
    omega
  · refine k H' q ((s1 _).trans s2) ((s1 _).free nq) ?_
    rw [packet_is hne]
    exact hq
/-! ### bare_packet -/
def spBare (C : Addr) : Sp := fun vs H Q _ => ∃ (e l : Addr) (a : Abs), vs = [.ref e] ∧ EndAt C H e l a ∧
  ∀ (H' : Hp) (p : Addr), Same H H' → H p = none → H' p = some (.lst (nv (Kge2.bare a))) → Q (.ref p) H'
theorem scBare : FnScope ["self"] ["self"] (defScope sBare) := ⟨rfl, rfl, rfl, by decide +kernel, rfl, by decide +kernel, by decide +kernel⟩
theorem ok_bare {f : Addr} {fd : FuncData} (F : Fun K "bare_packet" "End.bare_packet" sBare f fd) (T : Txt K mg C) (GM : Cal P w K mg base "message_of" 2 ["sender", "receiver", "got", "first", "items"] spMessage) : FnOk P w K mg base CX0 3 f fd ["self"] (spBare C) := by
  refine F.ok scBare (fun vs H Q E h => ?_) (fun cdv A outer s H vs Q E hr h => ?_)
  · obtain ⟨e, l, a, rfl, _⟩ := h
    rfl
  obtain ⟨e, l, a, rfl, ⟨dx, ts, h1, h2, h3⟩, k⟩ := h
  refine ⟨_, pss_one (ps_ret (pe_cal GM hr rfl (pa_cons (pe_fld (pv 0) rfl) (pa_cons (pe_fld (pv 0) rfl) (pa_cons (pe_fld (pv 0) rfl) (pa_cons pe_int (pa_cons (pe_lst pa_nil) pa_nil))))))), ?_⟩
  refine ⟨_, rfl, e, C, dx, _, _, rfl, h1, T.cl, T.nMe, eF_me, _, rfl, e, C, dx, _, _, rfl, h1, T.cl, T.nOther, eF_other, _, rfl, e, C, dx, _, _, rfl, h1, T.cl, T.nGot, eF_got, Nat.zero_le _, fun p hp => ?_⟩
  exact ⟨⟨a.me, a.other, a.got, 0, []⟩, p, [], rfl, upd_same, Al.nil, Nat.zero_le _, fun H' q s2 nq hq => k H' q ((same_upd hp).trans s2) ((same_upd hp).free nq) hq⟩
end
end Um

set_option Elab.async false
set_option maxRecDepth 100000
set_option maxHeartbeats 2000000
namespace Um
open PySem PySem.Spec PyProof.Rows L2
open Kge2 (Abs Item Ev)
section
variable {P : Program} {w : World} {K : PySem.W.Frag} {mg : Str → Option Value} {base : Heap} {C : Addr}
/-! ### offer_from -/
theorem ev_ne {H : Hp} {t p : Addr} {e : Ev} {ts : List Addr} (h : EvAt H t e) (k : H p = some (.lst (ts.map V.ref))) : t ≠ p := by
  refine ne_of h k fun z => ?_
  have z' : iv (Kge2Neutral.told e) = ts.map V.ref := HO.lst.inj z
  cases ts with
  | nil => cases e <;> cases z'
  | cons x r => cases e <;> cases z'
def spOffer (C : Addr) : Sp := fun vs H Q _ => ∃ (e l m : Addr) (a : Abs) (b : List Nat) (n : Nat), vs = [.ref e, .ref m, .int (n : Int)] ∧ EndAt C H e l a ∧ H m = some (.lst (nv b)) ∧ (∀ x ∈ b, x < 256) ∧ ¬ Bad b ∧
  ∀ (H' : Hp) (p : Addr) (ts : List Addr), EndAt C H' e l { a with got := (offer a.got n (msgOf b).first (msgOf b).items).2 } → Kept1 e H H' → H p = none → H' p = some (.lst (ts.map V.ref)) →
    Al (EvAt H') ts (offer a.got n (msgOf b).first (msgOf b).items).1 → Q (.ref p) H'
theorem scOffer : FnScope ["self", "message", "takes", "things", "first", "left", "rank", "item"] ["self", "message", "takes"] (defScope sOffer) := ⟨rfl, rfl, rfl, by decide +kernel, rfl, by decide +kernel, by decide +kernel⟩
theorem ok_offer {f : Addr} {fd : FuncData} (F : Fun K "offer_from" "End.offer_from" sOffer f fd) (T : Txt K mg C) (GN : Cal P w K mg base "number_at" 1 ["row", "place", "length"] (spNumber K)) (GI : Cal P w K mg base "item_at" 2 ["message", "rank"] (spItem K))
    (GO : Cal P w K mg base "told_offer" 1 ["taken", "item"] spToldO) : FnOk P w K mg base CX0 3 f fd ["self", "message", "takes"] (spOffer C) := by
  refine F.ok scOffer (fun vs H Q E h => ?_) (fun cdv A outer s H vs Q E hr h => ?_)
  · obtain ⟨e, l, m, a, b, n, rfl, _⟩ := h
    rfl
  obtain ⟨e, l, m, a, b, n, rfl, hE, hm, hb, hB, k⟩ := h
  have hr1 : Room 1 _ := hr.mono (by decide)
  refine ⟨_, pss_cons (ps_set (i := 3) scOffer.nd rfl (Or.inl rfl) (pe_lst pa_nil))
    (pss_cons (ps_set (i := 4) scOffer.nd rfl (Or.inl rfl) (pe_cal GN hr1 rfl (pa_cons (pv 1) (pa_cons (pe_kon rfl T.pFirst) (pa_cons pe_int pa_nil)))))
    (pss_cons (ps_set (i := 5) scOffer.nd rfl (Or.inl rfl) (pv 2))
    (pss_cons (ps_for PassesOwn.never rfl (pi_range1 rfl T.range (pa_cons (pe_ix ix_list (pv 1) (pe_kon rfl T.pCount) (fun _ _ => rfl)) pa_nil)) (pg_name (i := 6) scOffer.nd rfl (Or.inl rfl))
      (pss_one (ps_if (pt_cmpR op_eq (pe_op op_add (pv 4) (pv 6)) (pe_op op_add (pe_fld (pv 0) rfl) pe_int) (nomark _))
        (pss_cons (ps_set (i := 7) scOffer.nd rfl (Or.inl rfl) (pe_cal GI hr rfl (pa_cons (pv 1) (pa_cons (pv 6) pa_nil))))
        (pss_cons (ps_if (pt_cmpR op_eq (pv 5) pe_int (nomark _))
          (pss_cons (ps_expr (pe_bm PySem.F.plainAttrs_list PySem.F.slot_list_append PySem.F.type_list_append mt_append (pv 3) (pa_cons (pe_cal GO hr1 rfl (pa_cons pe_int (pa_cons (pv 7) pa_nil))) pa_nil))) (pss_one ps_break)) pss_nil)
        (pss_cons (ps_expr (pe_bm PySem.F.plainAttrs_list PySem.F.slot_list_append PySem.F.type_list_append mt_append (pv 3) (pa_cons (pe_cal GO hr1 rfl (pa_cons pe_int (pa_cons (pv 7) pa_nil))) pa_nil)))
        (pss_cons (ps_set (i := 5) scOffer.nd rfl (Or.inl rfl) (pe_op op_sub (pv 5) pe_int))
        (pss_one (ps_fld (pv 0) (pe_op op_add (pe_fld (pv 0) rfl) pe_int) rfl)))))) pss_nil)))
    (pss_one (ps_ret (pv 3)))))), ?_⟩
  have hg := good_len hB
  obtain ⟨c, hc⟩ := get_lt (l := b) (i := 2) (by omega)
  have ec := getD_of hc
  rw [ec] at hg
  obtain ⟨dx, us, h1, h2, h3⟩ := hE
  have me : m ≠ e := lst_ne hm h1
  have le : l ≠ e := lst_ne h2 h1
  refine ⟨Nat.zero_le _, fun p hp => ?_⟩
  have pe : p ≠ e := (ne_of_none h1 hp).symm
  have hm1 : ∀ o, upd H p o m = some (.lst (nv b)) := fun o => same_upd hp _ _ hm
  refine ⟨_, rfl, m, b, 8, 4, rfl, SqL.of (hm1 _), hb, by omega, by omega, ?_⟩
  refine ⟨_, rfl, ?_⟩
  refine ⟨_, rfl, m, nv b, _, V.int (c : Int), rfl, rfl, SqL.of (hm1 _), at_of (j := 2) rfl (nv_at hc), (c : Int), rfl, by omega, by omega, ?_⟩
  generalize hF : Kge2.part b 8 4 = first
  have hF' : (msgOf b).first = first := hF
  rw [hF'] at k
  generalize hI : (msgOf b).items = items at k
  have hlen : items.length = c := by rw [← hI, msgOf_len, ec]
  have stand : ∀ {H' : Hp}, Kept1 e H H' → H' l = some (.lst (us.map V.ref)) ∧ Al (ItAt H') us a.waiting ∧ H' m = some (.lst (nv b)) := fun {H'} kp =>
    ⟨kp _ _ h2 le, Kept1.items kp h1 h3, kp _ _ hm me⟩
  refine for_range (lo := 0) (n := c) (fun i σ H' => ∃ (u v : Option V) (left got : Nat) (q : List Ev) (ts : List Addr),
      σ = [some (.ref e), some (.ref m), some (.int (n : Int)), some (.ref p), some (.int (first : Int)), some (.int (left : Int)), u, v] ∧
      H' e = some (.ins C dx (eA { a with got := got } l)) ∧ Kept1 e H H' ∧ H' p = some (.lst (ts.map V.ref)) ∧ Al (EvAt H') ts q ∧ q.length ≤ i ∧
      offer a.got n first items = (q ++ (offer got left (first + i) (items.drop i)).1, (offer got left (first + i) (items.drop i)).2))
    ⟨none, none, n, a.got, [], [], rfl, ?_, kept1_new hp, upd_same, Al.nil, Nat.le_refl _, rfl⟩ ?_ ?_
  · exact same_upd hp _ _ h1
  · rintro i σ H' hi ⟨u, v, left, got, q, ts, rfl, he, kp, hts, hal, hq, hof⟩
    obtain ⟨hl', hw', hm'⟩ := stand kp
    have hx : items[i]? = some (itemOf b i) := by
      rw [← hI]
      exact msgOf_item (by rw [ec]; exact hi)
    rw [drop_more hx] at hof
    have qs : ts.length < sizeLine := by
      rw [hal.1]
      have h16 : c ≤ 16 := hg.2
      exact Nat.lt_of_lt_of_le (show q.length < 17 by omega) (by decide)
    refine ⟨_, rfl, _, rfl, _, _, rfl, rfl, _, rfl, e, C, dx, _, _, rfl, he, T.cl, T.nGot, eF_got, _, _, rfl, rfl, rfl, _, rfl, ?_⟩
    by_cases c1 : first + i = got + 1
    case neg =>
      refine if_false_of (int_ne (by show ¬ ((first : Int) + (0 + (i : Int)) = ((got : Nat) : Int) + 1); omega)) ?_
      rw [offer_skip c1] at hof
      exact ⟨_, v, left, got, q, ts, rfl, he, kp, hts, hal, by omega, hof⟩
    refine if_true_of (int_eq (by show (first : Int) + (0 + (i : Int)) = ((got : Nat) : Int) + 1; omega)) ?_
    refine ⟨_, rfl, _, rfl, m, b, i, congrArg (fun z => [V.ref m, V.int z]) (Int.zero_add (i : Int)), SqL.of hm', hb, by omega, fun H1 t s1 nt ht => ?_⟩
    refine ⟨_, rfl, rfl, _, rfl, ?_⟩
    have hp1 : H1 p = some (.lst (ts.map V.ref)) := s1 _ _ hts
    by_cases c2 : left = 0
    · refine if_true_of (int_eq (by omega)) ?_
      subst c2
      rw [offer_no c1] at hof
      refine ⟨_, rfl, .inl ⟨rfl, _, SqL.of hp1⟩, _, rfl, t, itemOf b i, false, rfl, ht, fun H2 r s2 nr hr2 => ?_⟩
      refine ⟨p, _, _, rfl, rfl, s2 _ _ hp1, (by rw [List.length_map]; exact qs), ?_⟩
      have S : ∀ (o : HO) (z : Addr) (y : HO), H' z = some y → z ≠ p → upd H2 p o z = some y := fun o z y hz hn => by
        rw [upd_ne hn]
        exact s2 _ _ (s1 _ _ hz)
      have rp : r ≠ p := (ne_of_none hp1 nr).symm
      refine ⟨_, rfl, ?_⟩
      rw [hof] at k
      refine k _ p (ts ++ [r]) ⟨dx, us, S _ _ _ he pe.symm, S _ _ _ hl' (ne_of_none h2 hp), hw'.mono fun t2 x2 q2 => S _ _ _ q2 (tup_ne_lst q2 hts)⟩ (fun z y hz hn => S _ _ _ (kp _ _ hz hn) (ne_of_none hz hp)) hp ?_ (Al.snoc ?_ ?_)
      · rw [upd_same, List.map_append]
        rfl
      · exact hal.mono fun t2 e2 q2 => S _ _ _ q2 (ev_ne q2 hts)
      · unfold EvAt
        rw [upd_ne rp]
        exact hr2
    · refine if_false_of (int_ne (by omega)) ?_
      rw [offer_yes c1 c2] at hof
      refine ⟨_, rfl, .inl ⟨rfl, _, SqL.of hp1⟩, _, rfl, t, itemOf b i, true, rfl, ht, fun H2 r s2 nr hr2 => ?_⟩
      refine ⟨p, _, _, rfl, rfl, s2 _ _ hp1, (by rw [List.length_map]; exact qs), ?_⟩
      have S : ∀ (o : HO) (z : Addr) (y : HO), H' z = some y → z ≠ p → upd H2 p o z = some y := fun o z y hz hn => by
        rw [upd_ne hn]
        exact s2 _ _ (s1 _ _ hz)
      have rp : r ≠ p := (ne_of_none hp1 nr).symm
      have re : r ≠ e := (ne_of_none (s1 _ _ he) nr).symm
      refine ⟨_, rfl, _, _, rfl, rfl, ?_⟩
      refine ⟨_, rfl, e, C, dx, _, _, rfl, S _ _ _ he pe.symm, T.cl, T.nGot, eF_got, _, _, rfl, rfl, _, rfl, e, C, dx, _, rfl, S _ _ _ he pe.symm, T.cl, T.nGot, (by show 5 < 1000; decide), ?_⟩
      refine ⟨some (.int (0 + (i : Int))), some (.ref t), left - 1, got + 1, q ++ [.got (itemOf b i) true], ts ++ [r], ?_, ?_, ?_, ?_, Al.snoc ?_ ?_, ?_, ?_⟩
      · show [some (V.ref e), some (V.ref m), some (V.int (n : Int)), some (V.ref p), some (V.int (first : Int)), some (V.int ((left : Int) - 1)), some (V.int (0 + (i : Int))), some (V.ref t)] = _
        have e1 : (left : Int) - 1 = ((left - 1 : Nat) : Int) := by omega
        rw [e1]
      · rw [upd_same]
        unfold eA
        rw [put_got]
        rfl
      · refine kept1_upd fun z y hz hn => ?_
        exact S _ _ _ (kp _ _ hz hn) (ne_of_none hz hp)
      · rw [upd_ne pe, upd_same, List.map_append]
        rfl
      · refine hal.mono fun t2 e2 q2 => ?_
        unfold EvAt
        rw [upd_ne (lst_ne q2 he)]
        exact S _ _ _ q2 (ev_ne q2 hts)
      · unfold EvAt
        rw [upd_ne re, upd_ne rp]
        exact hr2
      · rw [List.length_append]
        show q.length + 1 ≤ i + 1
        omega
      · rw [hof, List.append_assoc]
        rfl
  · rintro σ H' ⟨u, v, left, got, q, ts, rfl, he, kp, hts, hal, hq, hof⟩
    obtain ⟨hl', hw', hm'⟩ := stand kp
    refine ⟨_, rfl, ?_⟩
    rw [← hlen, List.drop_length] at hof
    have hof' : offer a.got n first items = (q, got) := by
      rw [hof]
      show (q ++ [], got) = (q, got)
      rw [List.append_nil]
    rw [hof'] at k
    exact k H' p ts ⟨dx, us, he, hl', hw'⟩ kp hp hts hal
end
end Um

set_option Elab.async false
set_option maxRecDepth 100000
set_option maxHeartbeats 2000000
namespace Um
open PySem PySem.Spec PyProof.Rows L2
open Kge2 (Abs Item Ev)
section
variable {P : Program} {w : World} {K : PySem.W.Frag} {mg : Str → Option Value} {base : Heap} {C : Addr}
theorem EndAt.put {C e l p : Addr} {H : Hp} {a : Abs} {xs ys : List V} (h : EndAt C H e l a) (hp : H p = some (.lst xs)) (pl : p ≠ l) : EndAt C (upd H p (.lst ys)) e l a := by
  obtain ⟨dx, ts, h1, h2, h3⟩ := h
  refine ⟨dx, ts, ?_, ?_, h3.mono fun t x q => ?_⟩
  · rw [upd_ne (lst_ne hp h1).symm]
    exact h1
  · rw [upd_ne pl.symm]
    exact h2
  · unfold ItAt
    rw [upd_ne (tup_ne_lst q hp)]
    exact q
/-! ### heard -/
def heardR (a : Abs) (b : List Nat) (n : Nat) : Abs × List Int := if rightB a b = true then (heardD a b n, answer (heardE a b n)) else (a, [-71, 0])
def spHeard (C : Addr) : Sp := fun vs H Q _ => ∃ (e l m : Addr) (a : Abs) (b : List Nat) (n : Nat), vs = [.ref e, .ref m, .int (n : Int)] ∧ EndAt C H e l a ∧ Good a ∧ H m = some (.lst (nv b)) ∧ (∀ x ∈ b, x < 256) ∧
  (heardR a b n).2.length ≤ sizeLine ∧ Done C e l H Q (heardR a b n).1 (heardR a b n).2
theorem scHeard : FnScope ["self", "message", "takes", "things"] ["self", "message", "takes"] (defScope sHeard) := ⟨rfl, rfl, rfl, by decide +kernel, rfl, by decide +kernel, by decide +kernel⟩
theorem ok_heard {f : Addr} {fd : FuncData} (F : Fun K "heard" "End.heard" sHeard f fd) (T : Txt K mg C) (GR : Cal P w K mg base "refusal" 1 ["number"] spRefusal) (GA : Cal P w K mg base "answer_with" 1 ["things"] spAnswer)
    (GN : Cal P w K mg base "number_at" 1 ["row", "place", "length"] (spNumber K)) (GT : Cal P w K mg base "told_message" 1 ["message"] spToldM) (GRi : MCal P w K mg base C "is_right" 3 ["self", "message"] (spRight K C))
    (GAck : MCal P w K mg base C "acknowledge" 2 ["self", "number"] (spAck C)) (GOf : MCal P w K mg base C "offer_from" 3 ["self", "message", "takes"] (spOffer C)) (GB : MCal P w K mg base C "bare_packet" 3 ["self"] (spBare C)) :
    FnOk P w K mg base CX0 4 f fd ["self", "message", "takes"] (spHeard C) := by
  refine F.ok scHeard (fun vs H Q E h => ?_) (fun cdv A outer s H vs Q E hr h => ?_)
  · obtain ⟨e, l, m, a, b, n, rfl, _⟩ := h
    rfl
  obtain ⟨e, l, m, a, b, n, rfl, hE, g, hm, hb, hz, k⟩ := h
  have hr1 : Room 1 _ := hr.mono (by decide)
  have hr2 : Room 2 _ := hr.mono (by decide)
  refine ⟨_, pss_cons (ps_if (pt_not (pt_val (pe_mcal GRi T.cl hr (pv 0) (pa_cons (pv 1) pa_nil)))) (pss_one (ps_ret (pe_cal GR hr1 rfl (pa_cons (pe_kon rfl T.rMessage) pa_nil)))) pss_nil)
    (pss_cons (ps_expr (pe_mcal GAck T.cl hr2 (pv 0) (pa_cons (pe_cal GN hr1 rfl (pa_cons (pv 1) (pa_cons (pe_kon rfl T.pGot) (pa_cons pe_int pa_nil)))) pa_nil)))
    (pss_cons (ps_set (i := 3) scHeard.nd rfl (Or.inl rfl) (pe_mcal GOf T.cl hr (pv 0) (pa_cons (pv 1) (pa_cons (pv 2) pa_nil))))
    (pss_cons (ps_if (pt_cmpR op_gt (pe_ix ix_list (pv 1) (pe_kon rfl T.pCount) (fun _ _ => rfl)) pe_int (nomark _))
      (pss_one (ps_expr (pe_bm PySem.F.plainAttrs_list PySem.F.slot_list_append PySem.F.type_list_append mt_append (pv 3) (pa_cons (pe_cal GT hr1 rfl (pa_cons (pe_mcal0 GB T.cl hr (pv 0)) pa_nil)) pa_nil)))) pss_nil)
    (pss_one (ps_ret (pe_cal GA hr1 rfl (pa_cons (pv 3) pa_nil))))))), ?_⟩
  obtain ⟨dx, us, h1, _, _⟩ := id hE
  refine ⟨_, rfl, e, dx, _, rfl, h1, eF_is_right, _, rfl, e, l, m, a, b, rfl, hE, SqL.of hm, hb, fun H1 s1 => ⟨_, rfl, ?_⟩⟩
  unfold heardR at k hz
  cases hq : rightB a b with
  | false =>
    rw [hq, if_neg (by decide)] at k
    refine if_true_of rfl ⟨-71, rfl, fun H' p s2 np hp => ?_⟩
    exact k H' p l (hE.same (s1.trans s2)) (.inl rfl) (same1 (s1.trans s2)).kept (s1.free np) hp
  | true =>
    rw [hq, if_pos rfl] at k hz
    refine if_false_of rfl ?_
    have hok : okB b = true := by
      unfold rightB at hq
      rw [Bool.and_eq_true] at hq
      exact hq.1
    have hB := okB_true hok
    have hg := good_len hB
    obtain ⟨c, hc⟩ := get_lt (l := b) (i := 2) (by omega)
    have ec := getD_of hc
    rw [ec] at hg
    refine ⟨_, rfl, e, dx, _, rfl, s1 _ _ h1, eF_acknowledge, _, rfl, m, b, 4, 4, rfl, SqL.of (s1 _ _ hm), hb, by omega, by omega, ?_⟩
    refine ⟨e, l, a, (msgOf b).got, rfl, hE.same s1, g, fun H2 l2 hE2 hl2 kp2 => ?_⟩
    have kp2' : Kept1 e H H2 := (same1 s1).trans kp2
    have me : m ≠ e := lst_ne hm h1
    have hm2 := kp2' _ _ hm me
    obtain ⟨dx2, us2, h12, hw2, _⟩ := id hE2
    refine ⟨_, rfl, e, dx2, _, rfl, h12, eF_offer_from, _, rfl, _, rfl, e, l2, m, Kge2.acked a (msgOf b).got, b, n, rfl, hE2, hm2, hb, hB, fun H3 p ts hE3 kp3 np hp hal => ?_⟩
    have kp3' : Kept1 e H H3 := kp2'.trans kp3
    have hE3' : EndAt C H3 e l2 (heardD a b n) := by
      rw [offer_spec] at hE3
      exact hE3
    have hal' : Al (EvAt H3) ts (Kge2Neutral.gets n (Kge2.fresh (heardB a b) (msgOf b))).1 := by
      rw [offer_spec] at hal
      exact hal
    obtain ⟨dx3, us3, h13, hw3, _⟩ := id hE3'
    have pl : p ≠ l2 := (ne_of_none hw2 np).symm
    have hl0 : l2 = l ∨ H l2 = none := hl2.imp id fun z => s1.free z
    have hm3 := kp3' _ _ hm me
    have kn : ∀ x ∈ (msgOf b).items, True := fun _ _ => trivial
    have hlen : (msgOf b).items.length = c := by rw [msgOf_len, ec]
    refine ⟨_, rfl, m, nv b, _, V.int (c : Int), rfl, rfl, SqL.of hm3, at_of (j := 2) rfl (nv_at hc), _, _, rfl, rfl, _, rfl, ?_⟩
    by_cases c0 : 0 < c
    · refine if_true_of (decide_eq_true (by omega)) ?_
      have hev : heardE a b n = (Kge2Neutral.gets n (Kge2.fresh (heardB a b) (msgOf b))).1 ++ [.net (Kge2.bare (heardD a b n))] := by
        unfold heardE
        have ne : (msgOf b).items.isEmpty = false := by
          cases q : (msgOf b).items with
          | nil =>
            rw [q] at hlen
            simp at hlen
            omega
          | cons _ _ => rfl
        rw [ne, if_neg (by decide)]
      refine ⟨_, rfl, .inl ⟨rfl, _, SqL.of hp⟩, _, rfl, e, dx3, _, rfl, h13, eF_bare_packet, e, l2, heardD a b n, rfl, hE3', fun H4 r s4 nr hr4 => ?_⟩
      refine ⟨r, Kge2.bare (heardD a b n), rfl, hr4, ?_, fun H5 z s5 nz hz5 => ?_⟩
      · unfold Kge2.bare
        rw [written_len]
        show 16 + 13 * 0 ≤ 1000
        decide
      · have hp5 : H5 p = some (.lst (ts.map V.ref)) := s5 _ _ (s4 _ _ hp)
        have hzp : z ≠ p := (ne_of_none (s4 _ _ hp) nz).symm
        refine ⟨p, _, _, rfl, rfl, hp5, ?_, ?_⟩
        · rw [List.length_map, hal'.1]
          have q1 : (heardE a b n).length ≤ (answer (heardE a b n)).length := by
            unfold answer
            have : ∀ (q : List Ev), q.length ≤ (q.flatMap Kge2Neutral.told).length := fun q => by
              induction q with
              | nil => exact Nat.le_refl _
              | cons x q ih =>
                rw [List.flatMap_cons, List.length_append, List.length_cons]
                have : 1 ≤ (Kge2Neutral.told x).length := by
                  cases x with
                  | net m => exact Nat.le_add_left _ _
                  | got x y => exact Nat.le_add_left _ _
                omega
            have := this (heardE a b n)
            rw [List.length_cons, List.length_cons]
            omega
          have q2 : (heardE a b n).length = (Kge2Neutral.gets n (Kge2.fresh (heardB a b) (msgOf b))).1.length + 1 := by
            rw [hev, List.length_append]
            rfl
          have q3 : (answer (heardE a b n)).length ≤ sizeLine := hz
          omega
        · have S : ∀ (o : HO) (y : Addr) (u : HO), H3 y = some u → y ≠ p → upd H5 p o y = some u := fun o y u hy hn => by
            rw [upd_ne hn]
            exact s5 _ _ (s4 _ _ hy)
          refine ⟨_, rfl, p, ts ++ [z], heardE a b n, rfl, ?_, ?_, hz, fun H' q s6 nq hq6 => ?_⟩
          · rw [upd_same, List.map_append]
            rfl
          · rw [hev]
            refine Al.snoc (hal'.mono fun t2 e2 q2 => S _ _ _ q2 (ev_ne q2 hp)) ?_
            unfold EvAt
            rw [upd_ne hzp]
            exact hz5
          · have hE5 : EndAt C H5 e l2 (heardD a b n) := hE3'.same (s4.trans s5)
            refine k H' q l2 ((hE5.put hp5 pl).same s6) hl0 (fun y u hy he hl => s6 _ _ (S _ _ _ (kp3' _ _ hy he) ?_)) (kp3'.free h13 (s4.free (s5.free (free_upd nq)))) hq6
            intro z2
            have := kp2' _ _ hy he
            rw [z2, np] at this
            cases this
    · refine if_false_of (decide_eq_false (by omega)) ?_
      have hev : heardE a b n = (Kge2Neutral.gets n (Kge2.fresh (heardB a b) (msgOf b))).1 := by
        unfold heardE
        have ne : (msgOf b).items.isEmpty = true := by
          cases q : (msgOf b).items with
          | nil => rfl
          | cons _ _ =>
            rw [q] at hlen
            simp at hlen
            omega
        rw [ne, if_pos rfl, List.append_nil]
      refine ⟨_, rfl, p, ts, heardE a b n, rfl, hp, ?_, hz, fun H' q s6 nq hq6 => ?_⟩
      · rw [hev]
        exact hal'
      · exact k H' q l2 (hE3'.same s6) hl0 (fun y u hy he _ => s6 _ _ (kp3' _ _ hy he)) (kp3'.free h13 nq) hq6
/-! ### tick -/
def tickR (a : Abs) : List Int := answer (if a.waiting.isEmpty then [] else [.net (Kge2.packet a)])
def spTick (C : Addr) : Sp := fun vs H Q _ => ∃ (e l : Addr) (a : Abs), vs = [.ref e] ∧ EndAt C H e l a ∧ Good a ∧ (tickR a).length ≤ sizeLine ∧ Done C e l H Q a (tickR a)
theorem scTick : FnScope ["self"] ["self"] (defScope sTick) := ⟨rfl, rfl, rfl, by decide +kernel, rfl, by decide +kernel, by decide +kernel⟩
theorem ok_tick {f : Addr} {fd : FuncData} (F : Fun K "tick" "End.tick" sTick f fd) (T : Txt K mg C) (GA : Cal P w K mg base "answer_with" 1 ["things"] spAnswer) (GT : Cal P w K mg base "told_message" 1 ["message"] spToldM)
    (GP : MCal P w K mg base C "packet" 3 ["self"] (spPacket C)) : FnOk P w K mg base CX0 4 f fd ["self"] (spTick C) := by
  refine F.ok scTick (fun vs H Q E h => ?_) (fun cdv A outer s H vs Q E hr h => ?_)
  · obtain ⟨e, l, a, rfl, _⟩ := h
    rfl
  obtain ⟨e, l, a, rfl, hE, g, hz, k⟩ := h
  have hr1 : Room 1 _ := hr.mono (by decide)
  refine ⟨_, pss_cons (ps_if (pt_cmpR op_eq (pe_callB call_len_seq (by rfl) T.len PySem.boot_len (pa_cons (pe_fld (pv 0) rfl) pa_nil)) pe_int (nomark _)) (pss_one (ps_ret (pe_cal GA hr1 rfl (pa_cons (pe_lst pa_nil) pa_nil)))) pss_nil)
    (pss_one (ps_ret (pe_cal GA hr1 rfl (pa_cons (pe_lst (pa_cons (pe_cal GT hr1 rfl (pa_cons (pe_mcal0 GP T.cl hr (pv 0)) pa_nil)) pa_nil)) pa_nil)))), ?_⟩
  obtain ⟨dx, ts, h1, h2, h3⟩ := id hE
  have hl : (ts.map V.ref).length = a.waiting.length := by rw [List.length_map, h3.1]
  unfold tickR at k hz
  refine ⟨_, rfl, e, C, dx, _, _, rfl, h1, T.cl, T.nWaiting, eF_waiting, l, _, rfl, .inl (SqL.of h2), rfl, _, rfl, ?_⟩
  cases hw : a.waiting.isEmpty with
  | true =>
    rw [hw, if_pos rfl] at k
    have hw0 : a.waiting.length = 0 := by
      cases q : a.waiting with
      | nil => rfl
      | cons _ _ =>
        rw [q] at hw
        cases hw
    refine if_true_of (int_eq (by rw [hl, hw0]; rfl)) ⟨Nat.zero_le _, fun r hr2 => ⟨r, [], [], rfl, upd_same, Al.nil, (by show 2 ≤ sizeLine; decide), fun H' p s1 np hp => ?_⟩⟩
    exact k H' p l (hE.same ((same_upd hr2).trans s1)) (.inl rfl) (same1 ((same_upd hr2).trans s1)).kept (free_upd np) hp
  | false =>
    rw [hw, if_neg (by decide)] at k hz
    have hw0 : a.waiting.length ≠ 0 := by
      cases q : a.waiting with
      | nil =>
        rw [q] at hw
        cases hw
      | cons _ _ => exact Nat.succ_ne_zero _
    refine if_false_of (int_ne (by rw [hl]; omega)) ?_
    refine ⟨_, rfl, e, dx, _, rfl, h1, eF_packet, e, l, a, rfl, hE, g, hw, fun H1 p s1 np hp => ?_⟩
    refine ⟨p, Kge2.packet a, rfl, hp, ?_, fun H2 z s2 nz hz2 => ?_⟩
    · rw [packet_is hw, written_len]
      show 16 + 13 * (a.waiting.take 16).length ≤ 1000
      rw [List.length_take]
      omega
    · refine ⟨(by show 1 ≤ sizeLine; decide), fun r hr2 => ?_⟩
      have S : ∀ o, Same H (upd H2 r o) := fun o => (s1.trans s2).trans (same_upd hr2)
      refine ⟨r, [z], [.net (Kge2.packet a)], rfl, upd_same, Al.snoc Al.nil (same_upd hr2 _ _ hz2), hz, fun H' q s3 nq hq => ?_⟩
      exact k H' q l (hE.same ((S _).trans s3)) (.inl rfl) (same1 ((S _).trans s3)).kept ((S _).free nq) hq
end
end Um

set_option Elab.async false
set_option maxRecDepth 100000
set_option maxHeartbeats 2000000
namespace Um
open PySem PySem.Spec PyProof.Rows L2
open Kge2 (Abs Item Ev)
open Kge2Neutral (step)
section
variable {P : Program} {w : World} {K : PySem.W.Frag} {mg : Str → Option Value} {base : Heap} {C : Addr}
theorem iv_at {l : List Int} {i : Nat} {x : Int} (h : l[i]? = some x) : (iv l)[i]? = some (V.int x) := by
  unfold iv
  rw [List.getElem?_map, h]
  rfl
theorem of_drop {ns r : List Int} {p j : Nat} {x : Int} (h : ns.drop p = r) (k : r[j]? = some x) : (iv ns)[p + j]? = some (V.int x) := by
  refine iv_at ?_
  rw [← List.getElem?_drop, h]
  exact k
/-! ### call_length -/
def spLength (K : PySem.W.Frag) : Sp := fun vs H Q _ => ∃ (c : Addr) (ns : List Int) (p : Nat) (cl : List (List Int)) (t : List Int), vs = [.ref c, .int (p : Int)] ∧ SqL K H c (iv ns) ∧ CallN (ns.drop p) cl t ∧ Q (.int ((clen cl : Nat) : Int)) H
theorem scLength : FnScope ["calls", "place", "call"] ["calls", "place"] (defScope sLength) := ⟨rfl, rfl, rfl, by decide +kernel, rfl, by decide +kernel, by decide +kernel⟩
theorem ok_length {f : Addr} {fd : FuncData} (F : Fun K "call_length" "call_length" sLength f fd) (T : Txt K mg C) : FnOk P w K mg base CX0 1 f fd ["calls", "place"] (spLength K) := by
  refine F.ok scLength (fun vs H Q E h => ?_) (fun cdv A outer s H vs Q E hr h => ?_)
  · obtain ⟨c, ns, p, cl, t, rfl, _⟩ := h
    rfl
  obtain ⟨c, ns, p, cl, t, rfl, hS, hc, k⟩ := h
  refine ⟨_, pss_cons (ps_set (i := 2) scLength.nd rfl (Or.inl rfl) (pe_ix ix_list (pv 0) (pv 1) (fun _ _ => rfl)))
    (pss_cons (ps_if (pt_cmpR op_eq (pv 2) (pe_kon rfl T.kStart) (nomark _)) (pss_one (ps_ret pe_int)) pss_nil)
    (pss_cons (ps_if (pt_cmpR op_eq (pv 2) (pe_kon rfl T.kSend) (nomark _)) (pss_one (ps_ret pe_int)) pss_nil)
    (pss_cons (ps_if (pt_cmpR op_eq (pv 2) (pe_kon rfl T.kHeard) (nomark _)) (pss_one (ps_ret (pe_op op_add pe_int (pe_ix ix_list (pv 0) (pe_op op_add (pv 1) pe_int) (fun _ _ => rfl))))) pss_nil)
    (pss_one (ps_ret pe_int))))), ?_⟩
  generalize hd : ns.drop p = r at hc
  cases hc with
  | start x y t =>
    refine ⟨_, rfl, _, rfl, c, iv ns, _, V.int 0, rfl, rfl, hS, at_of (j := p) rfl (of_drop (j := 0) hd rfl), ?_⟩
    exact ⟨_, rfl, rfl, _, rfl, if_true_of (int_eq rfl) k⟩
  | send x y z t =>
    refine ⟨_, rfl, _, rfl, c, iv ns, _, V.int 1, rfl, rfl, hS, at_of (j := p) rfl (of_drop (j := 0) hd rfl), ?_⟩
    refine ⟨_, rfl, rfl, _, rfl, if_false_of (int_ne (by decide)) ?_⟩
    exact ⟨_, rfl, rfl, _, rfl, if_true_of (int_eq rfl) k⟩
  | heard n m t hb hl =>
    refine ⟨_, rfl, _, rfl, c, iv ns, _, V.int 2, rfl, rfl, hS, at_of (j := p) rfl (of_drop (j := 0) hd rfl), ?_⟩
    refine ⟨_, rfl, rfl, _, rfl, if_false_of (int_ne (by decide)) ?_⟩
    refine ⟨_, rfl, rfl, _, rfl, if_false_of (int_ne (by decide)) ?_⟩
    refine ⟨_, rfl, rfl, _, rfl, if_true_of (int_eq rfl) ?_⟩
    refine ⟨_, rfl, _, rfl, _, _, rfl, rfl, c, iv ns, _, V.int (m.length : Int), rfl, rfl, hS, at_of (j := p + 2) rfl (of_drop (j := 2) hd rfl), _, _, rfl, rfl, ?_⟩
    have e : (3 : Int) + (m.length : Int) = ((clen [[2, (n : Int)], cast m] : Nat) : Int) := by
      rw [clen_heard, cast, List.length_map]
      omega
    rw [← e] at k
    exact k
  | tick t =>
    refine ⟨_, rfl, _, rfl, c, iv ns, _, V.int 3, rfl, rfl, hS, at_of (j := p) rfl (of_drop (j := 0) hd rfl), ?_⟩
    refine ⟨_, rfl, rfl, _, rfl, if_false_of (int_ne (by decide)) ?_⟩
    refine ⟨_, rfl, rfl, _, rfl, if_false_of (int_ne (by decide)) ?_⟩
    exact ⟨_, rfl, rfl, _, rfl, if_false_of (int_ne (by decide)) k⟩
  | look t =>
    refine ⟨_, rfl, _, rfl, c, iv ns, _, V.int 4, rfl, rfl, hS, at_of (j := p) rfl (of_drop (j := 0) hd rfl), ?_⟩
    refine ⟨_, rfl, rfl, _, rfl, if_false_of (int_ne (by decide)) ?_⟩
    refine ⟨_, rfl, rfl, _, rfl, if_false_of (int_ne (by decide)) ?_⟩
    exact ⟨_, rfl, rfl, _, rfl, if_false_of (int_ne (by decide)) k⟩
/-! ### answer_to -/
theorem cutV_mid (xs : List V) (i j : Nat) (h : i ≤ j) (hj : j ≤ xs.length) : cutV xs (some (i : Int)) (some (j : Int)) = (xs.drop i).take (j - i) := by
  unfold cutV
  rw [HT.sIx_nat, HT.sIx_nat, Nat.min_eq_left (show i ≤ xs.length by omega), Nat.min_eq_left hj]
/-- the end is what the specification says, once it says something -/
def Rel (s : Kge2Neutral.S) (a : Abs) : Prop := ∀ x, s = some x → x = a
def spTo (K : PySem.W.Frag) (C : Addr) : Sp := fun vs H Q _ => ∃ (e l c : Addr) (a : Abs) (ns : List Int) (p : Nat) (cl : List (List Int)) (t : List Int) (s : Kge2Neutral.S), vs = [.ref e, .ref c, .int (p : Int)] ∧ EndAt C H e l a ∧ Good a ∧ SqL K H c (iv ns) ∧
  CallN (ns.drop p) cl t ∧ Rel s a ∧ (step s cl).2.isEmpty = false ∧ (step s cl).2.length ≤ sizeLine ∧ ∀ a', Good a' → Rel (step s cl).1 a' → Done C e l H Q a' (step s cl).2
theorem scTo : FnScope ["end", "calls", "place", "call", "message"] ["end", "calls", "place"] (defScope sTo) := ⟨rfl, rfl, rfl, by decide +kernel, rfl, by decide +kernel, by decide +kernel⟩
theorem some_of {r : List Int} {c : List (List Int)} {t : List Int} {s : Kge2Neutral.S} {a : Abs} (h : CallN r c t) (hn : (step s c).2.isEmpty = false) (hr : Rel s a) (h0 : ∀ x y : Nat, c ≠ [[0, (x : Int), (y : Int)]]) : s = some a := by
  cases s with
  | none =>
    obtain ⟨x, y, e⟩ := step_none h hn
    exact (h0 x y e).elim
  | some x => rw [hr x rfl]
theorem ok_to {f : Addr} {fd : FuncData} (F : Fun K "answer_to" "answer_to" sTo f fd) (T : Txt K mg C) (GL : Cal P w K mg base "call_length" 1 ["calls", "place"] (spLength K)) (GS : MCal P w K mg base C "start" 2 ["self", "me", "other"] (spStart C))
    (GSe : MCal P w K mg base C "send" 2 ["self", "kind", "a", "b"] (spSend C)) (GH : MCal P w K mg base C "heard" 4 ["self", "message", "takes"] (spHeard C)) (GT : MCal P w K mg base C "tick" 4 ["self"] (spTick C)) (GLo : MCal P w K mg base C "look" 2 ["self"] (spLook C)) :
    FnOk P w K mg base CX0 5 f fd ["end", "calls", "place"] (spTo K C) := by
  refine F.ok scTo (fun vs H Q E h => ?_) (fun cdv A outer s H vs Q E hr h => ?_)
  · obtain ⟨e, l, c, a, ns, p, cl, t, st, rfl, _⟩ := h
    rfl
  obtain ⟨e, l, c, a, ns, p, cl, t, st, rfl, hE, g, hS, hc, hrel, hne, hz, k⟩ := h
  have hr1 : Room 1 _ := hr.mono (by decide)
  have hr2 : Room 2 _ := hr.mono (by decide)
  refine ⟨_, pss_cons (ps_set (i := 3) scTo.nd rfl (Or.inl rfl) (pe_ix ix_list (pv 1) (pv 2) (fun _ _ => rfl)))
    (pss_cons (ps_if (pt_cmpR op_eq (pv 3) (pe_kon rfl T.kStart) (nomark _)) (pss_one (ps_ret (pe_mcal GS T.cl hr2 (pv 0) (pa_cons (pe_ix ix_list (pv 1) (pe_op op_add (pv 2) pe_int) (fun _ _ => rfl)) (pa_cons (pe_ix ix_list (pv 1) (pe_op op_add (pv 2) pe_int) (fun _ _ => rfl)) pa_nil))))) pss_nil)
    (pss_cons (ps_if (pt_cmpR op_eq (pv 3) (pe_kon rfl T.kSend) (nomark _)) (pss_one (ps_ret (pe_mcal GSe T.cl hr2 (pv 0) (pa_cons (pe_ix ix_list (pv 1) (pe_op op_add (pv 2) pe_int) (fun _ _ => rfl)) (pa_cons (pe_ix ix_list (pv 1) (pe_op op_add (pv 2) pe_int) (fun _ _ => rfl)) (pa_cons (pe_ix ix_list (pv 1) (pe_op op_add (pv 2) pe_int) (fun _ _ => rfl)) pa_nil)))))) pss_nil)
    (pss_cons (ps_if (pt_cmpR op_eq (pv 3) (pe_kon rfl T.kHeard) (nomark _))
      (pss_cons (ps_set (i := 4) scTo.nd rfl (Or.inl rfl) (pe_slice sl_list (pv 1) (po_some (pe_op op_add (pv 2) pe_int)) (po_some (pe_op op_add (pv 2) (pe_cal GL hr1 rfl (pa_cons (pv 1) (pa_cons (pv 2) pa_nil)))))))
      (pss_one (ps_ret (pe_mcal GH T.cl hr (pv 0) (pa_cons (pv 4) (pa_cons (pe_ix ix_list (pv 1) (pe_op op_add (pv 2) pe_int) (fun _ _ => rfl)) pa_nil)))))) pss_nil)
    (pss_cons (ps_if (pt_cmpR op_eq (pv 3) (pe_kon rfl T.kTick) (nomark _)) (pss_one (ps_ret (pe_mcal0 GT T.cl hr (pv 0)))) pss_nil)
    (pss_one (ps_ret (pe_mcal0 GLo T.cl hr2 (pv 0)))))))), ?_⟩
  have hc0 := hc
  generalize hd : ns.drop p = r at hc
  obtain ⟨dx, us, h1, h2, h3⟩ := id hE
  cases hc with
  | start x y t =>
    refine ⟨_, rfl, _, rfl, c, iv ns, _, V.int 0, rfl, rfl, hS, at_of (j := p) rfl (of_drop (j := 0) hd rfl), ?_⟩
    refine ⟨_, rfl, rfl, _, rfl, if_true_of (int_eq rfl) ?_⟩
    refine ⟨_, rfl, e, dx, _, rfl, h1, eF_start, _, rfl, _, rfl, _, _, rfl, rfl, c, iv ns, _, V.int (x : Int), rfl, rfl, hS, at_of (j := p + 1) rfl (of_drop (j := 1) hd rfl),
      _, rfl, _, rfl, _, _, rfl, rfl, c, iv ns, _, V.int (y : Int), rfl, rfl, hS, at_of (j := p + 2) rfl (of_drop (j := 2) hd rfl), e, l, a, x, y, rfl, hE, ?_⟩
    rw [step_start] at k
    unfold startR
    by_cases q : 255 < x ∨ 255 < y ∨ x = y
    · rw [if_pos q] at k ⊢
      exact k a g hrel
    · rw [if_neg q] at k ⊢
      exact k _ (good_new x y) fun z hz => (Option.some.inj hz).symm
  | send x y z t =>
    obtain rfl := some_of hc0 hne hrel (fun _ _ e => by cases e)
    refine ⟨_, rfl, _, rfl, c, iv ns, _, V.int 1, rfl, rfl, hS, at_of (j := p) rfl (of_drop (j := 0) hd rfl), ?_⟩
    refine ⟨_, rfl, rfl, _, rfl, if_false_of (int_ne (by decide)) ?_⟩
    refine ⟨_, rfl, rfl, _, rfl, if_true_of (int_eq rfl) ?_⟩
    refine ⟨_, rfl, e, dx, _, rfl, h1, eF_send, _, rfl, _, rfl, _, _, rfl, rfl, c, iv ns, _, V.int (x : Int), rfl, rfl, hS, at_of (j := p + 1) rfl (of_drop (j := 1) hd rfl),
      _, rfl, _, rfl, _, _, rfl, rfl, c, iv ns, _, V.int (y : Int), rfl, rfl, hS, at_of (j := p + 2) rfl (of_drop (j := 2) hd rfl),
      _, rfl, _, rfl, _, _, rfl, rfl, c, iv ns, _, V.int (z : Int), rfl, rfl, hS, at_of (j := p + 3) rfl (of_drop (j := 3) hd rfl), e, l, a, x, y, z, rfl, hE, ?_⟩
    rw [step_send] at k
    unfold sendR
    by_cases q : 255 < x
    · rw [if_pos q] at k ⊢
      exact k a g hrel
    · rw [if_neg q] at k ⊢
      by_cases q2 : 64 ≤ a.waiting.length
      · rw [if_pos q2] at k ⊢
        exact k a g hrel
      · rw [if_neg q2] at k ⊢
        exact k _ (good_sent g _ q2) fun z hz => (Option.some.inj hz).symm
  | heard n m t hb hl =>
    obtain rfl := some_of hc0 hne hrel (fun _ _ e => by cases e)
    refine ⟨_, rfl, _, rfl, c, iv ns, _, V.int 2, rfl, rfl, hS, at_of (j := p) rfl (of_drop (j := 0) hd rfl), ?_⟩
    refine ⟨_, rfl, rfl, _, rfl, if_false_of (int_ne (by decide)) ?_⟩
    refine ⟨_, rfl, rfl, _, rfl, if_false_of (int_ne (by decide)) ?_⟩
    refine ⟨_, rfl, rfl, _, rfl, if_true_of (int_eq rfl) ?_⟩
    refine ⟨_, rfl, _, rfl, _, _, rfl, rfl, _, rfl, _, rfl, _, rfl, _, rfl, c, ns, p, _, t, rfl, hS, hc0, _, _, rfl, rfl, _, rfl, c, iv ns, rfl, hS, fun u hu => ?_⟩
    have S : ∀ o, Same H (upd H u o) := fun o => same_upd hu
    have hlen : ns.length - p = 3 + (m.length + t.length) := by
      have := congrArg List.length hd
      rw [List.length_drop] at this
      simp [cast] at this
      omega
    have ecut : cutV (iv ns) (some ((p : Int) + 3)) (some ((p : Int) + ((clen [[2, (n : Int)], cast m] : Nat) : Int))) = nv m := by
      have e1 : (p : Int) + 3 = ((p + 3 : Nat) : Int) := by omega
      have e2 : (p : Int) + ((clen [[2, (n : Int)], cast m] : Nat) : Int) = ((p + 3 + m.length : Nat) : Int) := by
        rw [clen_heard, cast, List.length_map]
        omega
      rw [e1, e2, cutV_mid _ _ _ (by omega) (by rw [iv_len]; omega)]
      have e3 : p + 3 + m.length - (p + 3) = m.length := by omega
      have e4 : ns.drop (p + 3) = cast m ++ t := by
        rw [← List.drop_drop, hd]
        rfl
      unfold iv
      rw [e3, ← List.map_drop, e4, List.map_append]
      have e5 : (cast m).map V.int = nv m := by
        unfold cast nv
        rw [List.map_map]
        rfl
      rw [e5, List.take_append_of_le_length (by rw [nv_len]; exact Nat.le_refl _), List.take_of_length_le (by rw [nv_len]; exact Nat.le_refl _)]
    refine ⟨_, rfl, e, dx, _, rfl, S _ _ _ h1, eF_heard, _, rfl, _, rfl, _, rfl, _, _, rfl, rfl, c, iv ns, _, V.int (n : Int), rfl, rfl, (S _).seq hS, at_of (j := p + 1) rfl (of_drop (j := 1) hd rfl), e, l, u, a, m, n, rfl, hE.same (S _), g, upd_same.trans (congrArg (fun q => some (HO.lst q)) ecut), hb, ?_, ?_⟩
    · have hz' : (step (some a) [[2, (n : Int)], cast m]).2.length ≤ sizeLine := hz
      unfold cast at hz'
      rw [step_heard] at hz'
      unfold heardR
      by_cases q : rightB a m = true
      · rw [if_pos q] at hz' ⊢
        exact hz'
      · rw [if_neg q]
        show 2 ≤ sizeLine
        decide
    · unfold cast at k
      rw [step_heard] at k
      unfold heardR
      intro H' r w' hE' hw' hk' nr' hr'
      have hw2 : w' = l ∨ H w' = none := hw'.imp id fun z => (S _).free z
      have hk2 : Kept e l H H' := fun b o x y z => hk' b o (S _ _ _ x) y z
      by_cases q : rightB a m = true
      · rw [if_pos q] at k hE' hr'
        exact k _ (good_got (good_acked g _) _) (fun z hz => (Option.some.inj hz).symm) H' r w' hE' hw2 hk2 ((S _).free nr') hr'
      · rw [if_neg q] at k hE' hr'
        exact k a g hrel H' r w' hE' hw2 hk2 ((S _).free nr') hr'
  | tick t =>
    obtain rfl := some_of hc0 hne hrel (fun _ _ e => by cases e)
    refine ⟨_, rfl, _, rfl, c, iv ns, _, V.int 3, rfl, rfl, hS, at_of (j := p) rfl (of_drop (j := 0) hd rfl), ?_⟩
    refine ⟨_, rfl, rfl, _, rfl, if_false_of (int_ne (by decide)) ?_⟩
    refine ⟨_, rfl, rfl, _, rfl, if_false_of (int_ne (by decide)) ?_⟩
    refine ⟨_, rfl, rfl, _, rfl, if_false_of (int_ne (by decide)) ?_⟩
    refine ⟨_, rfl, rfl, _, rfl, if_true_of (int_eq rfl) ?_⟩
    rw [step_tick] at k hz
    exact ⟨_, rfl, e, dx, _, rfl, h1, eF_tick, e, l, a, rfl, hE, g, hz, k a g hrel⟩
  | look t =>
    obtain rfl := some_of hc0 hne hrel (fun _ _ e => by cases e)
    refine ⟨_, rfl, _, rfl, c, iv ns, _, V.int 4, rfl, rfl, hS, at_of (j := p) rfl (of_drop (j := 0) hd rfl), ?_⟩
    refine ⟨_, rfl, rfl, _, rfl, if_false_of (int_ne (by decide)) ?_⟩
    refine ⟨_, rfl, rfl, _, rfl, if_false_of (int_ne (by decide)) ?_⟩
    refine ⟨_, rfl, rfl, _, rfl, if_false_of (int_ne (by decide)) ?_⟩
    refine ⟨_, rfl, rfl, _, rfl, if_false_of (int_ne (by decide)) ?_⟩
    rw [step_look] at k
    exact ⟨_, rfl, e, dx, _, rfl, h1, eF_look, e, l, a, rfl, hE, k a g hrel⟩
end
end Um

set_option Elab.async false
set_option maxRecDepth 100000
set_option maxHeartbeats 2000000
namespace Um
open PySem PySem.Spec PyProof.Rows L2
open Kge2 (Abs Item Ev)
open Kge2Neutral (step)
section
variable {P : Program} {w : World} {K : PySem.W.Frag} {mg : Str → Option Value} {base : Heap} {C : Addr}
/-! ### answers -/
def spAnswers (K : PySem.W.Frag) : Sp := fun vs H Q _ => ∃ (c : Addr) (ns : List Int), vs = [.ref c] ∧ SqL K H c (iv ns) ∧ PyKge2.answers_asked ns = true ∧
  ∀ (H' : Hp) (p : Addr), H' p = some (.lst (iv (PyKge2.answers ns))) → Q (.ref p) H'
theorem scAnswers : FnScope ["calls", "end", "given", "place", "answer"] ["calls"] (defScope sAnswers) := ⟨rfl, rfl, rfl, by decide +kernel, rfl, by decide +kernel, by decide +kernel⟩
/-- how many numbers are left -/
def mu (n : Nat) (σ : List (Option V)) (_ : Hp) : Nat := match (σ[3]? : Option (Option V)) with
  | some (some (V.int p)) => n - p.toNat
  | _ => 0
theorem ok_answers {f fI : Addr} {fd fdI : FuncData} (F : Fun K "answers" "answers" sAnswers f fd) (T : Txt K mg C) (M : Mk K C fI) (GI : FnOk P w K mg base CX0 1 fI fdI ["self"] (spInit C)) (bI : Binds K fdI ["self"] [])
    (GT : Cal P w K mg base "answer_to" 5 ["end", "calls", "place"] (spTo K C)) (GL : Cal P w K mg base "call_length" 1 ["calls", "place"] (spLength K)) : FnOk P w K mg base CX0 6 f fd ["calls"] (spAnswers K) := by
  refine F.ok scAnswers (fun vs H Q E h => ?_) (fun cdv A outer s H vs Q E hr h => ?_)
  · obtain ⟨c, ns, rfl, _⟩ := h
    rfl
  obtain ⟨c, ns, rfl, hS, hask, k⟩ := h
  have hr1 : Room 1 _ := hr.mono (by decide)
  have hr2 : Room 2 _ := hr.mono (by decide)
  refine ⟨_, pss_cons (ps_set (i := 1) scAnswers.nd rfl (Or.inl rfl) (pe_make0 M GI hr2 rfl T.gC bI .nil pass0))
    (pss_cons (ps_set (i := 2) scAnswers.nd rfl (Or.inl rfl) (pe_lst pa_nil))
    (pss_cons (ps_set (i := 3) scAnswers.nd rfl (Or.inl rfl) pe_int)
    (pss_cons (ps_while PassesOwn.never (pt_cmpR op_lt (pv 3) (pe_callB call_len_seq (by rfl) T.len PySem.boot_len (pa_cons (pv 0) pa_nil)) (nomark _))
      (pss_cons (ps_set (i := 4) scAnswers.nd rfl (Or.inl rfl) (pe_cal GT hr rfl (pa_cons (pv 1) (pa_cons (pv 0) (pa_cons (pv 3) pa_nil)))))
      (pss_cons (ps_expr (pe_bm PySem.F.plainAttrs_list PySem.F.slot_list_append PySem.F.type_list_append mt_append (pv 2) (pa_cons (pe_callB call_len_seq (by rfl) T.len PySem.boot_len (pa_cons (pv 4) pa_nil)) pa_nil)))
      (pss_cons (ps_expr (pe_bm PySem.F.plainAttrs_list PySem.F.slot_list_extend PySem.F.type_list_extend mt_extend (pv 2) (pa_cons (pv 4) pa_nil)))
      (pss_one (ps_set (i := 3) scAnswers.nd rfl (Or.inl rfl) (pe_op op_add (pv 3) (pe_cal GL hr1 rfl (pa_cons (pv 0) (pa_cons (pv 3) pa_nil))))))))))
    (pss_one (ps_ret (pv 2)))))), ?_⟩
  obtain ⟨L0, hmost⟩ := left_start hask
  intro x dx nx nd ne
  refine ⟨x, dx, rfl, upd_same, fun H1 l hE1 hl kp1 => ⟨rfl, ?_⟩⟩
  have S1 : Same H H1 := Same.made nx nd kp1
  have hl0 : H l = none := free_upd (free_upd hl)
  refine ⟨Nat.zero_le _, fun gv hg => ?_⟩
  have hg0 : H gv = none := S1.free hg
  refine while_by (fun σ H' => ∃ (l : Addr) (a : Abs) (place : Nat) (gs : List Int) (st : Kge2Neutral.S) (v : Option V), σ = [some (.ref c), some (.ref x), some (.ref gv), some (.int (place : Int)), v] ∧
      EndAt C H' x l a ∧ Good a ∧ Rel st a ∧ Left ns place gs st ∧ H' gv = some (.lst (iv gs)) ∧ gv ≠ l ∧ H l = none ∧ Same H H') (mu ns.length) ?_ ?_ ?_
  · refine ⟨l, zero, 0, [], none, none, rfl, hE1.same (same_upd hg), good_new 0 0, (fun _ z => by cases z), L0, upd_same, ?_, hl0, S1.trans (same_upd hg)⟩
    obtain ⟨_, _, _, h2, _⟩ := hE1
    exact (ne_of_none h2 hg).symm
  · rintro σ H' ⟨l, a, place, gs, st, v, rfl, hE, g, rel, L, hgv, gl, hl0, S⟩
    refine ⟨_, rfl, _, rfl, c, _, rfl, .inl (S.seq hS), _, _, rfl, rfl, _, rfl, ?_⟩
    by_cases q : place < ns.length
    · refine if_true_of (decide_eq_true (by rw [iv_len]; omega)) ?_
      obtain ⟨cl, t, hc, hpos, hne, hz, L'⟩ := left_turn L q
      have hmost2 : gs.length + (1 + (step st cl).2.length) ≤ sizeLine := Nat.le_trans (Nat.le_trans hz hmost) (by decide)
      refine ⟨_, rfl, _, rfl, _, rfl, x, l, c, a, ns, place, cl, t, st, rfl, hE, g, S.seq hS, hc, rel, hne, by omega, fun a' g' rel' H2 r l' hE2 hl2 kp2 nr hr3 => ?_⟩
      obtain ⟨dx', us, h1, h2, h3⟩ := id hE
      have gx : gv ≠ x := lst_ne hgv h1
      have hgv2 : H2 gv = some (.lst (iv gs)) := kp2 _ _ hgv gx gl
      have rg : r ≠ gv := (ne_of_none hgv nr).symm
      have hl0' : H l' = none := by
        rcases hl2 with z | z
        · rw [z]
          exact hl0
        · exact S.free z
      have gl' : gv ≠ l' := by
        rcases hl2 with z | z
        · rw [z]
          exact gl
        · exact ne_of_none hgv z
      have S2 : Same H H2 := fun b o hb => kp2 _ _ (S _ _ hb) (ne_of_none hb nx) (ne_of_none hb hl0)
      refine ⟨_, rfl, .inl ⟨rfl, _, SqL.of hgv2⟩, _, rfl, r, _, rfl, .inl (SqL.of hr3), gv, _, _, rfl, rfl, hgv2, (by rw [iv_len]; omega), ?_⟩
      refine ⟨_, rfl, .inl ⟨rfl, _, SqL.of upd_same⟩, _, rfl, gv, r, _, _, rfl, rfl, upd_same, (upd_ne rg).trans hr3, ?_, ?_⟩
      · rw [List.length_append, iv_len, iv_len]
        show gs.length + 1 + (step st cl).2.length ≤ sizeLine
        omega
      have S3 : ∀ (u v : HO), Same H (upd (upd H2 gv u) gv v) := fun u v b o hb => by
        rw [upd_ne (ne_of_none hb hg0), upd_ne (ne_of_none hb hg0)]
        exact S2 _ _ hb
      refine ⟨_, rfl, _, rfl, _, rfl, c, ns, place, cl, t, rfl, (S3 _ _).seq hS, hc, _, _, rfl, rfl, ?_⟩
      refine ⟨⟨l', a', place + clen cl, _, (step st cl).1, some (.ref r), ?_, ?_, g', rel', L', ?_, gl', hl0', S3 _ _⟩, ?_⟩
      · show [some (V.ref c), some (V.ref x), some (V.ref gv), some (V.int ((place : Int) + ((clen cl : Nat) : Int))), some (V.ref r)] = _
        rw [← Int.natCast_add]
      · rw [upd_upd]
        exact hE2.put hgv2 gl'
      · rw [upd_same, iv_len]
        show some (HO.lst (iv gs ++ [V.int ((step st cl).2.length : Int)] ++ iv (step st cl).2)) = _
        rw [iv_app, List.append_assoc]
        rfl
      · show ns.length - ((place : Int) + ((clen cl : Nat) : Int)).toNat < ns.length - (place : Int).toNat
        omega
    · refine if_false_of (decide_eq_false (by rw [iv_len]; omega)) ?_
      refine ⟨_, rfl, k H' gv ?_⟩
      rw [← left_end L q]
      exact hgv
  · rintro σ H' Q1 Q2 hQ ⟨v, e1, v2, e2, p, ys, e3, e4, i, j, e5, e6, b, e7, q⟩
    exact ⟨v, e1, v2, e2, p, ys, e3, e4, i, j, e5, e6, b, e7, hQ _ _ q⟩
end
end Um

set_option Elab.async false
set_option maxRecDepth 100000
set_option maxHeartbeats 4000000
namespace Um
open PySem PySem.Spec PyProof.Rows L2
/-! ### the end: what the top has written -/
theorem all_mk {P : Program} {w : World} {K : PySem.W.Frag} {h : Heap} {mg : Str → Option Value} {fa C f0 f1 f2 f3 f4 f5 f6 f7 f8 f9 f10 f11 f12 f13 f14 f15 f16 f17 f18 f19 f20 f21 f22 f23 f24 : Addr}
    {t0 t1 t2 t3 t4 t5 t6 t7 t8 t9 t10 t11 t12 t13 t14 t15 t16 t17 t18 : Tok}
    {od0 an0 od1 an1 od2 an2 od3 an3 od4 an4 od5 an5 od6 an6 od7 an7 od8 an8 od9 an9 od10 an10 od11 an11 od12 an12 od13 an13 od14 an14 od15 an15 od16 an16 od17 an17 od18 an18 od19 an19 od20 an20 od21 an21 od22 an22 od23 an23 od24 an24 : Option Addr}
    {sl0 sl1 sl2 sl3 sl4 sl5 sl6 sl7 sl8 sl9 sl10 sl11 sl12 sl13 sl14 sl15 sl16 sl17 sl18 sl19 sl20 sl21 sl22 sl23 sl24 : Array (Option Value)}
    {oc0 kV0 dc0 pm0 cd0 ct0 oc1 kV1 dc1 pm1 cd1 ct1 oc2 kV2 dc2 pm2 cd2 ct2 oc3 kV3 dc3 pm3 cd3 ct3 oc4 kV4 dc4 pm4 cd4 ct4 oc5 kV5 dc5 pm5 cd5 ct5 oc6 kV6 dc6 pm6 cd6 ct6 oc7 kV7 dc7 pm7 cd7 ct7 oc8 kV8 dc8 pm8 cd8 ct8 oc9 kV9 dc9 pm9 cd9 ct9 oc10 kV10 dc10 pm10 cd10 ct10 oc11 kV11 dc11 pm11 cd11 ct11 oc12 kV12 dc12 pm12 cd12 ct12 oc13 kV13 dc13 pm13 cd13 ct13 oc14 kV14 dc14 pm14 cd14 ct14 oc15 kV15 dc15 pm15 cd15 ct15 oc16 kV16 dc16 pm16 cd16 ct16 oc17 kV17 dc17 pm17 cd17 ct17 oc18 kV18 dc18 pm18 cd18 ct18 oc19 kV19 dc19 pm19 cd19 ct19 oc20 kV20 dc20 pm20 cd20 ct20 oc21 kV21 dc21 pm21 cd21 ct21 oc22 kV22 dc22 pm22 cd22 ct22 oc23 kV23 dc23 pm23 cd23 ct23 oc24 kV24 dc24 pm24 cd24 ct24 : Value} (X : K.In h) (G : h.Ns mainGlobals mg) (hfa : mg "answers" = some (.ref fa))
    (aC : PySem.W.nsIn K mainGlobals "End" = some (some (.ref C)))
    (q0 : PySem.W.nsIn K mainGlobals "REFUSED_VALUE" = some (some (.int (-22) t0)))
    (q1 : PySem.W.nsIn K mainGlobals "REFUSED_FULL" = some (some (.int (-11) t1)))
    (q2 : PySem.W.nsIn K mainGlobals "REFUSED_MESSAGE" = some (some (.int (-71) t2)))
    (q3 : PySem.W.nsIn K mainGlobals "START" = some (some (.int 0 t3)))
    (q4 : PySem.W.nsIn K mainGlobals "SEND" = some (some (.int 1 t4)))
    (q5 : PySem.W.nsIn K mainGlobals "HEARD" = some (some (.int 2 t5)))
    (q6 : PySem.W.nsIn K mainGlobals "TICK" = some (some (.int 3 t6)))
    (q7 : PySem.W.nsIn K mainGlobals "HIGHEST_BYTE" = some (some (.int 255 t7)))
    (q8 : PySem.W.nsIn K mainGlobals "MOST_WAITING" = some (some (.int 64 t8)))
    (q9 : PySem.W.nsIn K mainGlobals "MOST_IN_MESSAGE" = some (some (.int 16 t9)))
    (q10 : PySem.W.nsIn K mainGlobals "COUNT_PLACE" = some (some (.int 2 t10)))
    (q11 : PySem.W.nsIn K mainGlobals "ZERO_PLACE" = some (some (.int 3 t11)))
    (q12 : PySem.W.nsIn K mainGlobals "GOT_PLACE" = some (some (.int 4 t12)))
    (q13 : PySem.W.nsIn K mainGlobals "FIRST_PLACE" = some (some (.int 8 t13)))
    (q14 : PySem.W.nsIn K mainGlobals "HEAD_LENGTH" = some (some (.int 12 t14)))
    (q15 : PySem.W.nsIn K mainGlobals "ITEM_LENGTH" = some (some (.int 13 t15)))
    (q16 : PySem.W.nsIn K mainGlobals "CHECK_LENGTH" = some (some (.int 4 t16)))
    (q17 : PySem.W.nsIn K mainGlobals "ALL_ONES" = some (some (.int 4294967295 t17)))
    (q18 : PySem.W.nsIn K mainGlobals "POLYNOMIAL" = some (some (.int 2197175160 t18)))
    (zl : PySem.W.nsIn K mainGlobals "len" = some none)
    (zr : PySem.W.nsIn K mainGlobals "range" = some none)
    (a0 : PySem.W.nsIn K mainGlobals "check_of" = some (some (.ref f0)))
    (l0 : K.lookup f0 = some ⟨oc0, od0, .func (PySem.W.fnOf "check_of" "check_of" (defArgs sCheck) (defBody sCheck) (defScope sCheck) .none kV0 dc0 pm0 an0 cd0 ct0), sl0⟩)
    (c0 : PySem.W.codeIn K cd0 "check_of" = true)
    (k0 : PySem.W.keepIn K (.ref f0) = true)
    (a1 : PySem.W.nsIn K mainGlobals "bytes_of" = some (some (.ref f1)))
    (l1 : K.lookup f1 = some ⟨oc1, od1, .func (PySem.W.fnOf "bytes_of" "bytes_of" (defArgs sBytes) (defBody sBytes) (defScope sBytes) .none kV1 dc1 pm1 an1 cd1 ct1), sl1⟩)
    (c1 : PySem.W.codeIn K cd1 "bytes_of" = true)
    (k1 : PySem.W.keepIn K (.ref f1) = true)
    (a2 : PySem.W.nsIn K mainGlobals "number_at" = some (some (.ref f2)))
    (l2 : K.lookup f2 = some ⟨oc2, od2, .func (PySem.W.fnOf "number_at" "number_at" (defArgs sNumber) (defBody sNumber) (defScope sNumber) .none kV2 dc2 pm2 an2 cd2 ct2), sl2⟩)
    (c2 : PySem.W.codeIn K cd2 "number_at" = true)
    (k2 : PySem.W.keepIn K (.ref f2) = true)
    (a3 : PySem.W.nsIn K mainGlobals "item_at" = some (some (.ref f3)))
    (l3 : K.lookup f3 = some ⟨oc3, od3, .func (PySem.W.fnOf "item_at" "item_at" (defArgs sItem) (defBody sItem) (defScope sItem) .none kV3 dc3 pm3 an3 cd3 ct3), sl3⟩)
    (c3 : PySem.W.codeIn K cd3 "item_at" = true)
    (k3 : PySem.W.keepIn K (.ref f3) = true)
    (a4 : PySem.W.nsIn K mainGlobals "message_of" = some (some (.ref f4)))
    (l4 : K.lookup f4 = some ⟨oc4, od4, .func (PySem.W.fnOf "message_of" "message_of" (defArgs sMessage) (defBody sMessage) (defScope sMessage) .none kV4 dc4 pm4 an4 cd4 ct4), sl4⟩)
    (c4 : PySem.W.codeIn K cd4 "message_of" = true)
    (k4 : PySem.W.keepIn K (.ref f4) = true)
    (a5 : PySem.W.nsIn K mainGlobals "is_well_formed" = some (some (.ref f5)))
    (l5 : K.lookup f5 = some ⟨oc5, od5, .func (PySem.W.fnOf "is_well_formed" "is_well_formed" (defArgs sFormed) (defBody sFormed) (defScope sFormed) .none kV5 dc5 pm5 an5 cd5 ct5), sl5⟩)
    (c5 : PySem.W.codeIn K cd5 "is_well_formed" = true)
    (k5 : PySem.W.keepIn K (.ref f5) = true)
    (a6 : PySem.W.nsIn K mainGlobals "told_message" = some (some (.ref f6)))
    (l6 : K.lookup f6 = some ⟨oc6, od6, .func (PySem.W.fnOf "told_message" "told_message" (defArgs sToldM) (defBody sToldM) (defScope sToldM) .none kV6 dc6 pm6 an6 cd6 ct6), sl6⟩)
    (c6 : PySem.W.codeIn K cd6 "told_message" = true)
    (k6 : PySem.W.keepIn K (.ref f6) = true)
    (a7 : PySem.W.nsIn K mainGlobals "told_offer" = some (some (.ref f7)))
    (l7 : K.lookup f7 = some ⟨oc7, od7, .func (PySem.W.fnOf "told_offer" "told_offer" (defArgs sToldO) (defBody sToldO) (defScope sToldO) .none kV7 dc7 pm7 an7 cd7 ct7), sl7⟩)
    (c7 : PySem.W.codeIn K cd7 "told_offer" = true)
    (k7 : PySem.W.keepIn K (.ref f7) = true)
    (a8 : PySem.W.nsIn K mainGlobals "answer_with" = some (some (.ref f8)))
    (l8 : K.lookup f8 = some ⟨oc8, od8, .func (PySem.W.fnOf "answer_with" "answer_with" (defArgs sAnswer) (defBody sAnswer) (defScope sAnswer) .none kV8 dc8 pm8 an8 cd8 ct8), sl8⟩)
    (c8 : PySem.W.codeIn K cd8 "answer_with" = true)
    (k8 : PySem.W.keepIn K (.ref f8) = true)
    (a9 : PySem.W.nsIn K mainGlobals "refusal" = some (some (.ref f9)))
    (l9 : K.lookup f9 = some ⟨oc9, od9, .func (PySem.W.fnOf "refusal" "refusal" (defArgs sRefusal) (defBody sRefusal) (defScope sRefusal) .none kV9 dc9 pm9 an9 cd9 ct9), sl9⟩)
    (c9 : PySem.W.codeIn K cd9 "refusal" = true)
    (k9 : PySem.W.keepIn K (.ref f9) = true)
    (a10 : PySem.W.findIn K (.ref C) "__init__" = some (some (.ref f10)))
    (i10 : PySem.W.isFn K (.ref f10) = true)
    (l10 : K.lookup f10 = some ⟨oc10, od10, .func (PySem.W.fnOf "__init__" "End.__init__" (defArgs sInit) (defBody sInit) (defScope sInit) .none kV10 dc10 pm10 an10 cd10 ct10), sl10⟩)
    (c10 : PySem.W.codeIn K cd10 "End.__init__" = true)
    (k10 : PySem.W.keepIn K (.ref f10) = true)
    (a11 : PySem.W.findIn K (.ref C) "start" = some (some (.ref f11)))
    (i11 : PySem.W.isFn K (.ref f11) = true)
    (l11 : K.lookup f11 = some ⟨oc11, od11, .func (PySem.W.fnOf "start" "End.start" (defArgs sStart) (defBody sStart) (defScope sStart) .none kV11 dc11 pm11 an11 cd11 ct11), sl11⟩)
    (c11 : PySem.W.codeIn K cd11 "End.start" = true)
    (k11 : PySem.W.keepIn K (.ref f11) = true)
    (a12 : PySem.W.findIn K (.ref C) "send" = some (some (.ref f12)))
    (i12 : PySem.W.isFn K (.ref f12) = true)
    (l12 : K.lookup f12 = some ⟨oc12, od12, .func (PySem.W.fnOf "send" "End.send" (defArgs sSend) (defBody sSend) (defScope sSend) .none kV12 dc12 pm12 an12 cd12 ct12), sl12⟩)
    (c12 : PySem.W.codeIn K cd12 "End.send" = true)
    (k12 : PySem.W.keepIn K (.ref f12) = true)
    (a13 : PySem.W.findIn K (.ref C) "heard" = some (some (.ref f13)))
    (i13 : PySem.W.isFn K (.ref f13) = true)
    (l13 : K.lookup f13 = some ⟨oc13, od13, .func (PySem.W.fnOf "heard" "End.heard" (defArgs sHeard) (defBody sHeard) (defScope sHeard) .none kV13 dc13 pm13 an13 cd13 ct13), sl13⟩)
    (c13 : PySem.W.codeIn K cd13 "End.heard" = true)
    (k13 : PySem.W.keepIn K (.ref f13) = true)
    (a14 : PySem.W.findIn K (.ref C) "tick" = some (some (.ref f14)))
    (i14 : PySem.W.isFn K (.ref f14) = true)
    (l14 : K.lookup f14 = some ⟨oc14, od14, .func (PySem.W.fnOf "tick" "End.tick" (defArgs sTick) (defBody sTick) (defScope sTick) .none kV14 dc14 pm14 an14 cd14 ct14), sl14⟩)
    (c14 : PySem.W.codeIn K cd14 "End.tick" = true)
    (k14 : PySem.W.keepIn K (.ref f14) = true)
    (a15 : PySem.W.findIn K (.ref C) "look" = some (some (.ref f15)))
    (i15 : PySem.W.isFn K (.ref f15) = true)
    (l15 : K.lookup f15 = some ⟨oc15, od15, .func (PySem.W.fnOf "look" "End.look" (defArgs sLook) (defBody sLook) (defScope sLook) .none kV15 dc15 pm15 an15 cd15 ct15), sl15⟩)
    (c15 : PySem.W.codeIn K cd15 "End.look" = true)
    (k15 : PySem.W.keepIn K (.ref f15) = true)
    (a16 : PySem.W.findIn K (.ref C) "is_right" = some (some (.ref f16)))
    (i16 : PySem.W.isFn K (.ref f16) = true)
    (l16 : K.lookup f16 = some ⟨oc16, od16, .func (PySem.W.fnOf "is_right" "End.is_right" (defArgs sRight) (defBody sRight) (defScope sRight) .none kV16 dc16 pm16 an16 cd16 ct16), sl16⟩)
    (c16 : PySem.W.codeIn K cd16 "End.is_right" = true)
    (k16 : PySem.W.keepIn K (.ref f16) = true)
    (a17 : PySem.W.findIn K (.ref C) "acknowledged" = some (some (.ref f17)))
    (i17 : PySem.W.isFn K (.ref f17) = true)
    (l17 : K.lookup f17 = some ⟨oc17, od17, .func (PySem.W.fnOf "acknowledged" "End.acknowledged" (defArgs sAcked) (defBody sAcked) (defScope sAcked) .none kV17 dc17 pm17 an17 cd17 ct17), sl17⟩)
    (c17 : PySem.W.codeIn K cd17 "End.acknowledged" = true)
    (k17 : PySem.W.keepIn K (.ref f17) = true)
    (a18 : PySem.W.findIn K (.ref C) "acknowledge" = some (some (.ref f18)))
    (i18 : PySem.W.isFn K (.ref f18) = true)
    (l18 : K.lookup f18 = some ⟨oc18, od18, .func (PySem.W.fnOf "acknowledge" "End.acknowledge" (defArgs sAck) (defBody sAck) (defScope sAck) .none kV18 dc18 pm18 an18 cd18 ct18), sl18⟩)
    (c18 : PySem.W.codeIn K cd18 "End.acknowledge" = true)
    (k18 : PySem.W.keepIn K (.ref f18) = true)
    (a19 : PySem.W.findIn K (.ref C) "offer_from" = some (some (.ref f19)))
    (i19 : PySem.W.isFn K (.ref f19) = true)
    (l19 : K.lookup f19 = some ⟨oc19, od19, .func (PySem.W.fnOf "offer_from" "End.offer_from" (defArgs sOffer) (defBody sOffer) (defScope sOffer) .none kV19 dc19 pm19 an19 cd19 ct19), sl19⟩)
    (c19 : PySem.W.codeIn K cd19 "End.offer_from" = true)
    (k19 : PySem.W.keepIn K (.ref f19) = true)
    (a20 : PySem.W.findIn K (.ref C) "packet" = some (some (.ref f20)))
    (i20 : PySem.W.isFn K (.ref f20) = true)
    (l20 : K.lookup f20 = some ⟨oc20, od20, .func (PySem.W.fnOf "packet" "End.packet" (defArgs sPacket) (defBody sPacket) (defScope sPacket) .none kV20 dc20 pm20 an20 cd20 ct20), sl20⟩)
    (c20 : PySem.W.codeIn K cd20 "End.packet" = true)
    (k20 : PySem.W.keepIn K (.ref f20) = true)
    (a21 : PySem.W.findIn K (.ref C) "bare_packet" = some (some (.ref f21)))
    (i21 : PySem.W.isFn K (.ref f21) = true)
    (l21 : K.lookup f21 = some ⟨oc21, od21, .func (PySem.W.fnOf "bare_packet" "End.bare_packet" (defArgs sBare) (defBody sBare) (defScope sBare) .none kV21 dc21 pm21 an21 cd21 ct21), sl21⟩)
    (c21 : PySem.W.codeIn K cd21 "End.bare_packet" = true)
    (k21 : PySem.W.keepIn K (.ref f21) = true)
    (a22 : PySem.W.nsIn K mainGlobals "call_length" = some (some (.ref f22)))
    (l22 : K.lookup f22 = some ⟨oc22, od22, .func (PySem.W.fnOf "call_length" "call_length" (defArgs sLength) (defBody sLength) (defScope sLength) .none kV22 dc22 pm22 an22 cd22 ct22), sl22⟩)
    (c22 : PySem.W.codeIn K cd22 "call_length" = true)
    (k22 : PySem.W.keepIn K (.ref f22) = true)
    (a23 : PySem.W.nsIn K mainGlobals "answer_to" = some (some (.ref f23)))
    (l23 : K.lookup f23 = some ⟨oc23, od23, .func (PySem.W.fnOf "answer_to" "answer_to" (defArgs sTo) (defBody sTo) (defScope sTo) .none kV23 dc23 pm23 an23 cd23 ct23), sl23⟩)
    (c23 : PySem.W.codeIn K cd23 "answer_to" = true)
    (k23 : PySem.W.keepIn K (.ref f23) = true)
    (a24 : PySem.W.nsIn K mainGlobals "answers" = some (some (.ref f24)))
    (l24 : K.lookup f24 = some ⟨oc24, od24, .func (PySem.W.fnOf "answers" "answers" (defArgs sAnswers) (defBody sAnswers) (defScope sAnswers) .none kV24 dc24 pm24 an24 cd24 ct24), sl24⟩)
    (c24 : PySem.W.codeIn K cd24 "answers" = true)
    (k24 : PySem.W.keepIn K (.ref f24) = true)
    (pg : PySem.W.plainGet K C Str.empty = true)
    (hd : PySem.W.hasDictIn K C = true)
    (po : PySem.W.plainOver K C = true)
    (sa : PySem.W.findIn K (.ref C) "__setattr__" = some (some (.builtin "object.__setattr__")))
    (mk : PySem.W.makesIn K C = true)
    (kc : PySem.W.keepIn K (.ref C) = true)
    (n_me : PySem.W.findIn K (.ref C) "me" = some none)
    (n_other : PySem.W.findIn K (.ref C) "other" = some none)
    (n_waiting : PySem.W.findIn K (.ref C) "waiting" = some none)
    (n_sent : PySem.W.findIn K (.ref C) "sent" = some none)
    (n_got : PySem.W.findIn K (.ref C) "got" = some none)
    : ∃ fd : FuncData, (∀ (s : Shared) (us : List Value), us.length = (["calls"] : List Str).length → BindsTo s fd ⟨us, []⟩ ((["calls"] : List Str).zip us)) ∧ ∀ base : Heap, K.In base → base.Ns mainGlobals mg → FnOk P w K mg base CX0 6 fa fd ["calls"] (spAnswers K) := by
  have e := hfa.symm.trans (PySem.W.mg_of X G a24)
  cases e
  have T : Txt K mg C := {
    rValue := ⟨_, PySem.W.mg_of X G q0⟩, rFull := ⟨_, PySem.W.mg_of X G q1⟩, rMessage := ⟨_, PySem.W.mg_of X G q2⟩, kStart := ⟨_, PySem.W.mg_of X G q3⟩, kSend := ⟨_, PySem.W.mg_of X G q4⟩, kHeard := ⟨_, PySem.W.mg_of X G q5⟩, kTick := ⟨_, PySem.W.mg_of X G q6⟩, highest := ⟨_, PySem.W.mg_of X G q7⟩, mostW := ⟨_, PySem.W.mg_of X G q8⟩, mostM := ⟨_, PySem.W.mg_of X G q9⟩, pCount := ⟨_, PySem.W.mg_of X G q10⟩, pZero := ⟨_, PySem.W.mg_of X G q11⟩, pGot := ⟨_, PySem.W.mg_of X G q12⟩, pFirst := ⟨_, PySem.W.mg_of X G q13⟩, lHead := ⟨_, PySem.W.mg_of X G q14⟩, lItem := ⟨_, PySem.W.mg_of X G q15⟩, lCheck := ⟨_, PySem.W.mg_of X G q16⟩, ones := ⟨_, PySem.W.mg_of X G q17⟩, poly := ⟨_, PySem.W.mg_of X G q18⟩,
    len := PySem.W.mg_none_of X G zl, range := PySem.W.mg_none_of X G zr, cl := ⟨pg, hd, po, sa⟩, nMe := n_me, nOther := n_other, nWaiting := n_waiting, nSent := n_sent, nGot := n_got, gC := PySem.W.mg_of X G aC }
  have F0 := fun_mk (st := sCheck) l0 c0 k0
  have b0 := F0.binds (ps := ["row"]) fun _ _ _ _ _ _ us hl => match us, hl with | [_], _ => rfl
  have F1 := fun_mk (st := sBytes) l1 c1 k1
  have b1 := F1.binds (ps := ["number", "length"]) fun _ _ _ _ _ _ us hl => match us, hl with | [_, _], _ => rfl
  have F2 := fun_mk (st := sNumber) l2 c2 k2
  have b2 := F2.binds (ps := ["row", "place", "length"]) fun _ _ _ _ _ _ us hl => match us, hl with | [_, _, _], _ => rfl
  have F3 := fun_mk (st := sItem) l3 c3 k3
  have b3 := F3.binds (ps := ["message", "rank"]) fun _ _ _ _ _ _ us hl => match us, hl with | [_, _], _ => rfl
  have F4 := fun_mk (st := sMessage) l4 c4 k4
  have b4 := F4.binds (ps := ["sender", "receiver", "got", "first", "items"]) fun _ _ _ _ _ _ us hl => match us, hl with | [_, _, _, _, _], _ => rfl
  have F5 := fun_mk (st := sFormed) l5 c5 k5
  have b5 := F5.binds (ps := ["message"]) fun _ _ _ _ _ _ us hl => match us, hl with | [_], _ => rfl
  have F6 := fun_mk (st := sToldM) l6 c6 k6
  have b6 := F6.binds (ps := ["message"]) fun _ _ _ _ _ _ us hl => match us, hl with | [_], _ => rfl
  have F7 := fun_mk (st := sToldO) l7 c7 k7
  have b7 := F7.binds (ps := ["taken", "item"]) fun _ _ _ _ _ _ us hl => match us, hl with | [_, _], _ => rfl
  have F8 := fun_mk (st := sAnswer) l8 c8 k8
  have b8 := F8.binds (ps := ["things"]) fun _ _ _ _ _ _ us hl => match us, hl with | [_], _ => rfl
  have F9 := fun_mk (st := sRefusal) l9 c9 k9
  have b9 := F9.binds (ps := ["number"]) fun _ _ _ _ _ _ us hl => match us, hl with | [_], _ => rfl
  have F10 := fun_mk (st := sInit) l10 c10 k10
  have b10 := F10.binds (ps := ["self"]) fun _ _ _ _ _ _ us hl => match us, hl with | [_], _ => rfl
  have F11 := fun_mk (st := sStart) l11 c11 k11
  have b11 := F11.binds (ps := ["self", "me", "other"]) fun _ _ _ _ _ _ us hl => match us, hl with | [_, _, _], _ => rfl
  have F12 := fun_mk (st := sSend) l12 c12 k12
  have b12 := F12.binds (ps := ["self", "kind", "a", "b"]) fun _ _ _ _ _ _ us hl => match us, hl with | [_, _, _, _], _ => rfl
  have F13 := fun_mk (st := sHeard) l13 c13 k13
  have b13 := F13.binds (ps := ["self", "message", "takes"]) fun _ _ _ _ _ _ us hl => match us, hl with | [_, _, _], _ => rfl
  have F14 := fun_mk (st := sTick) l14 c14 k14
  have b14 := F14.binds (ps := ["self"]) fun _ _ _ _ _ _ us hl => match us, hl with | [_], _ => rfl
  have F15 := fun_mk (st := sLook) l15 c15 k15
  have b15 := F15.binds (ps := ["self"]) fun _ _ _ _ _ _ us hl => match us, hl with | [_], _ => rfl
  have F16 := fun_mk (st := sRight) l16 c16 k16
  have b16 := F16.binds (ps := ["self", "message"]) fun _ _ _ _ _ _ us hl => match us, hl with | [_, _], _ => rfl
  have F17 := fun_mk (st := sAcked) l17 c17 k17
  have b17 := F17.binds (ps := ["self"]) fun _ _ _ _ _ _ us hl => match us, hl with | [_], _ => rfl
  have F18 := fun_mk (st := sAck) l18 c18 k18
  have b18 := F18.binds (ps := ["self", "number"]) fun _ _ _ _ _ _ us hl => match us, hl with | [_, _], _ => rfl
  have F19 := fun_mk (st := sOffer) l19 c19 k19
  have b19 := F19.binds (ps := ["self", "message", "takes"]) fun _ _ _ _ _ _ us hl => match us, hl with | [_, _, _], _ => rfl
  have F20 := fun_mk (st := sPacket) l20 c20 k20
  have b20 := F20.binds (ps := ["self"]) fun _ _ _ _ _ _ us hl => match us, hl with | [_], _ => rfl
  have F21 := fun_mk (st := sBare) l21 c21 k21
  have b21 := F21.binds (ps := ["self"]) fun _ _ _ _ _ _ us hl => match us, hl with | [_], _ => rfl
  have F22 := fun_mk (st := sLength) l22 c22 k22
  have b22 := F22.binds (ps := ["calls", "place"]) fun _ _ _ _ _ _ us hl => match us, hl with | [_, _], _ => rfl
  have F23 := fun_mk (st := sTo) l23 c23 k23
  have b23 := F23.binds (ps := ["end", "calls", "place"]) fun _ _ _ _ _ _ us hl => match us, hl with | [_, _, _], _ => rfl
  have F24 := fun_mk (st := sAnswers) l24 c24 k24
  have b24 := F24.binds (ps := ["calls"]) fun _ _ _ _ _ _ us hl => match us, hl with | [_], _ => rfl
  refine ⟨PySem.W.fnOf "answers" "answers" (defArgs sAnswers) (defBody sAnswers) (defScope sAnswers) .none kV24 dc24 pm24 an24 cd24 ct24, fun s us hu => match us, hu with | [_], _ => .of_eq rfl, fun base _ _ => ?_⟩
  have gCheck : Cal P w K mg base "check_of" 1 ["row"] (spCheck K) := ⟨f0, _, PySem.W.mg_of X G a0, k0, ok_check F0 T, b0⟩
  have gBytes : Cal P w K mg base "bytes_of" 1 ["number", "length"] spBytes := ⟨f1, _, PySem.W.mg_of X G a1, k1, ok_bytes F1 T, b1⟩
  have gNumber : Cal P w K mg base "number_at" 1 ["row", "place", "length"] (spNumber K) := ⟨f2, _, PySem.W.mg_of X G a2, k2, ok_number F2 T, b2⟩
  have gItem : Cal P w K mg base "item_at" 2 ["message", "rank"] (spItem K) := ⟨f3, _, PySem.W.mg_of X G a3, k3, ok_item F3 T gNumber, b3⟩
  have gMessage : Cal P w K mg base "message_of" 2 ["sender", "receiver", "got", "first", "items"] spMessage := ⟨f4, _, PySem.W.mg_of X G a4, k4, ok_message F4 T gBytes gCheck, b4⟩
  have gFormed : Cal P w K mg base "is_well_formed" 2 ["message"] (spFormed K) := ⟨f5, _, PySem.W.mg_of X G a5, k5, ok_formed F5 T gNumber gCheck, b5⟩
  have gToldM : Cal P w K mg base "told_message" 1 ["message"] spToldM := ⟨f6, _, PySem.W.mg_of X G a6, k6, ok_toldM F6 T, b6⟩
  have gToldO : Cal P w K mg base "told_offer" 1 ["taken", "item"] spToldO := ⟨f7, _, PySem.W.mg_of X G a7, k7, ok_toldO F7 T, b7⟩
  have gAnswer : Cal P w K mg base "answer_with" 1 ["things"] spAnswer := ⟨f8, _, PySem.W.mg_of X G a8, k8, ok_answer F8 T, b8⟩
  have gRefusal : Cal P w K mg base "refusal" 1 ["number"] spRefusal := ⟨f9, _, PySem.W.mg_of X G a9, k9, ok_refusal F9, b9⟩
  have gStart : MCal P w K mg base C "start" 2 ["self", "me", "other"] (spStart C) := ⟨f11, _, ⟨a11, i11, k11⟩, ok_start F11 T gRefusal gAnswer, b11⟩
  have gSend : MCal P w K mg base C "send" 2 ["self", "kind", "a", "b"] (spSend C) := ⟨f12, _, ⟨a12, i12, k12⟩, ok_send F12 T gRefusal gAnswer, b12⟩
  have gLook : MCal P w K mg base C "look" 2 ["self"] (spLook C) := ⟨f15, _, ⟨a15, i15, k15⟩, ok_look F15 T gAnswer, b15⟩
  have gRight : MCal P w K mg base C "is_right" 3 ["self", "message"] (spRight K C) := ⟨f16, _, ⟨a16, i16, k16⟩, ok_right F16 T gFormed, b16⟩
  have gAcked : MCal P w K mg base C "acknowledged" 1 ["self"] (spAcked C) := ⟨f17, _, ⟨a17, i17, k17⟩, ok_acked F17 T, b17⟩
  have gAck : MCal P w K mg base C "acknowledge" 2 ["self", "number"] (spAck C) := ⟨f18, _, ⟨a18, i18, k18⟩, ok_ack F18 T gAcked, b18⟩
  have gOffer : MCal P w K mg base C "offer_from" 3 ["self", "message", "takes"] (spOffer C) := ⟨f19, _, ⟨a19, i19, k19⟩, ok_offer F19 T gNumber gItem gToldO, b19⟩
  have gPacket : MCal P w K mg base C "packet" 3 ["self"] (spPacket C) := ⟨f20, _, ⟨a20, i20, k20⟩, ok_packet F20 T gMessage gAcked, b20⟩
  have gBare : MCal P w K mg base C "bare_packet" 3 ["self"] (spBare C) := ⟨f21, _, ⟨a21, i21, k21⟩, ok_bare F21 T gMessage, b21⟩
  have gHeard : MCal P w K mg base C "heard" 4 ["self", "message", "takes"] (spHeard C) := ⟨f13, _, ⟨a13, i13, k13⟩, ok_heard F13 T gRefusal gAnswer gNumber gToldM gRight gAck gOffer gBare, b13⟩
  have gTick : MCal P w K mg base C "tick" 4 ["self"] (spTick C) := ⟨f14, _, ⟨a14, i14, k14⟩, ok_tick F14 T gAnswer gToldM gPacket, b14⟩
  have gLength : Cal P w K mg base "call_length" 1 ["calls", "place"] (spLength K) := ⟨f22, _, PySem.W.mg_of X G a22, k22, ok_length F22 T, b22⟩
  have gTo : Cal P w K mg base "answer_to" 5 ["end", "calls", "place"] (spTo K C) := ⟨f23, _, PySem.W.mg_of X G a23, k23, ok_to F23 T gLength gStart gSend gHeard gTick gLook, b23⟩
  exact ok_answers F24 T ⟨mk, a10, i10, kc⟩ (ok_init F10 T) b10 gTo gLength
end Um
open PySem PySem.W PyProof.Rows
set_option maxRecDepth 100000 in
set_option maxHeartbeats 8000000 in
theorem PySem.Challenge.cw_uncutline_s01_answers_holds : PySem.Challenge.rw_uncutline_s01_answers.Holds := by
  w_on; k_headS; (case hw => exact ⟨[.list [.int 0, .int 1, .int 2]], by decide +kernel, by decide +kernel⟩)
  k_fillS
  refine L2.walk_specK (r := PySem.Challenge.rw_uncutline_s01_answers) (k := 6) (CX := L2.CX0) (ps := ["calls"]) (sp := Um.spAnswers) (by decide +kernel) rfl rfl ⟨rfl, by decide, by decide⟩ (fun w h Y => PySem.W.kIn_of Y) ?F ?S (fun _ _ _ _ z => z)
  case F =>
    intro w mg fa h Y KX G hmg
    refine' Um.all_mk KX G hmg ?aC ?q0 ?q1 ?q2 ?q3 ?q4 ?q5 ?q6 ?q7 ?q8 ?q9 ?q10 ?q11 ?q12 ?q13 ?q14 ?q15 ?q16 ?q17 ?q18 ?zl ?zr ?a0 ?l0 ?c0 ?k0 ?a1 ?l1 ?c1 ?k1 ?a2 ?l2 ?c2 ?k2 ?a3 ?l3 ?c3 ?k3 ?a4 ?l4 ?c4 ?k4 ?a5 ?l5 ?c5 ?k5 ?a6 ?l6 ?c6 ?k6 ?a7 ?l7 ?c7 ?k7 ?a8 ?l8 ?c8 ?k8 ?a9 ?l9 ?c9 ?k9 ?a10 ?i10 ?l10 ?c10 ?k10 ?a11 ?i11 ?l11 ?c11 ?k11 ?a12 ?i12 ?l12 ?c12 ?k12 ?a13 ?i13 ?l13 ?c13 ?k13 ?a14 ?i14 ?l14 ?c14 ?k14 ?a15 ?i15 ?l15 ?c15 ?k15 ?a16 ?i16 ?l16 ?c16 ?k16 ?a17 ?i17 ?l17 ?c17 ?k17 ?a18 ?i18 ?l18 ?c18 ?k18 ?a19 ?i19 ?l19 ?c19 ?k19 ?a20 ?i20 ?l20 ?c20 ?k20 ?a21 ?i21 ?l21 ?c21 ?k21 ?a22 ?l22 ?c22 ?k22 ?a23 ?l23 ?c23 ?k23 ?a24 ?l24 ?c24 ?k24 ?pg ?hd ?po ?sa ?mk ?kc ?n_me ?n_other ?n_waiting ?n_sent ?n_got
    (case aC => k_is); (case q0 => k_is); (case q1 => k_is); (case q2 => k_is); (case q3 => k_is); (case q4 => k_is)
    (case q5 => k_is); (case q6 => k_is); (case q7 => k_is); (case q8 => k_is); (case q9 => k_is); (case q10 => k_is)
    (case q11 => k_is); (case q12 => k_is); (case q13 => k_is); (case q14 => k_is); (case q15 => k_is); (case q16 => k_is)
    (case q17 => k_is); (case q18 => k_is); (case zl => k_is); (case zr => k_is); (case a0 => k_is); (case l0 => k_is)
    (case c0 => k_is); (case k0 => k_is); (case a1 => k_is); (case l1 => k_is); (case c1 => k_is); (case k1 => k_is)
    (case a2 => k_is); (case l2 => k_is); (case c2 => k_is); (case k2 => k_is); (case a3 => k_is); (case l3 => k_is)
    (case c3 => k_is); (case k3 => k_is); (case a4 => k_is); (case l4 => k_is); (case c4 => k_is); (case k4 => k_is)
    (case a5 => k_is); (case l5 => k_is); (case c5 => k_is); (case k5 => k_is); (case a6 => k_is); (case l6 => k_is)
    (case c6 => k_is); (case k6 => k_is); (case a7 => k_is); (case l7 => k_is); (case c7 => k_is); (case k7 => k_is)
    (case a8 => k_is); (case l8 => k_is); (case c8 => k_is); (case k8 => k_is); (case a9 => k_is); (case l9 => k_is)
    (case c9 => k_is); (case k9 => k_is); (case a10 => k_is); (case i10 => k_is); (case l10 => k_is); (case c10 => k_is)
    (case k10 => k_is); (case a11 => k_is); (case i11 => k_is); (case l11 => k_is); (case c11 => k_is); (case k11 => k_is)
    (case a12 => k_is); (case i12 => k_is); (case l12 => k_is); (case c12 => k_is); (case k12 => k_is); (case a13 => k_is)
    (case i13 => k_is); (case l13 => k_is); (case c13 => k_is); (case k13 => k_is); (case a14 => k_is); (case i14 => k_is)
    (case l14 => k_is); (case c14 => k_is); (case k14 => k_is); (case a15 => k_is); (case i15 => k_is); (case l15 => k_is)
    (case c15 => k_is); (case k15 => k_is); (case a16 => k_is); (case i16 => k_is); (case l16 => k_is); (case c16 => k_is)
    (case k16 => k_is); (case a17 => k_is); (case i17 => k_is); (case l17 => k_is); (case c17 => k_is); (case k17 => k_is)
    (case a18 => k_is); (case i18 => k_is); (case l18 => k_is); (case c18 => k_is); (case k18 => k_is); (case a19 => k_is)
    (case i19 => k_is); (case l19 => k_is); (case c19 => k_is); (case k19 => k_is); (case a20 => k_is); (case i20 => k_is)
    (case l20 => k_is); (case c20 => k_is); (case k20 => k_is); (case a21 => k_is); (case i21 => k_is); (case l21 => k_is)
    (case c21 => k_is); (case k21 => k_is); (case a22 => k_is); (case l22 => k_is); (case c22 => k_is); (case k22 => k_is)
    (case a23 => k_is); (case l23 => k_is); (case c23 => k_is); (case k23 => k_is); (case a24 => k_is); (case l24 => k_is)
    (case c24 => k_is); (case k24 => k_is); (case pg => k_is); (case hd => k_is); (case po => k_is); (case sa => k_is)
    (case mk => k_is); (case kc => k_is); (case n_me => k_is); (case n_other => k_is); (case n_waiting => k_is); (case n_sent => k_is)
    (case n_got => k_is)
  case S =>
    intro K H xs a hO hwi hask hx
    cases hx with
    | cons h1 h2 =>
      cases h2
      cases h1 with
      | lst hs ha =>
        have e := L2.ints_dw a.1 _ ha
        subst e
        exact ⟨_, a.1, rfl, hs, hask, fun H' p hp => .lst (L2.SqL.of hp) (L2.dw_ints _)⟩
#print axioms PySem.Challenge.cw_uncutline_s01_answers_holds
