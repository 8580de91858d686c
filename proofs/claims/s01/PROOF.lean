import PyProof.Rows.All
import Wide.All
import OpenK.AllK
import Wide.FinOn
import PyProof.EqAt
import PyProof.EqKinds
import PyProof.TupleCall
import KE.BitLaws
import PyProof.PassesOwn
import PyProof.StationsW
import KE.OsGo
import Open.SpecLaws
import PySem.Challenge.RW_doorward_s01_answers
set_option Elab.async false
set_option linter.all false
set_option maxRecDepth 100000
set_option maxHeartbeats 4100000
namespace Dw
open Sn37
theorem W_eq : W = 4294967296 := rfl
theorem and_mask (x : Nat) : x &&& 4294967295 = x % 4294967296 := Nat.and_two_pow_sub_one_eq_mod x 32
theorem and_255 (x : Nat) : x &&& 255 = x % 256 := Nat.and_two_pow_sub_one_eq_mod x 8
theorem xor_mask {b : Nat} (hb : b < 4294967296) : b ^^^ 4294967295 = inverted b := by
 unfold inverted W
 show b ^^^ (2 ^ 32 - 1) = 2 ^ 32 - 1 - b
 apply Nat.eq_of_testBit_eq
 intro i
 have e : 2 ^ 32 - 1 - b = 2 ^ 32 - (b + 1) := by omega
 rw [e, Nat.testBit_two_pow_sub_succ (show b < 2 ^ 32 from hb), Nat.testBit_xor, Nat.testBit_two_pow_sub_one]
 by_cases hi : i < 32
 ·simp [hi]
 ·have : b.testBit i = false := Nat.testBit_lt_two_pow (Nat.lt_of_lt_of_le (show b < 2 ^ 32 from hb) (Nat.pow_le_pow_right (by decide) (by omega)))
  simp [hi, this]
theorem or_join {a b k : Nat} (h : a < 2 ^ k) : b * 2 ^ k ||| a = b * 2 ^ k + a := by
 rw [Nat.mul_comm]
 exact (Nat.two_pow_add_eq_or_of_lt h b).symm
theorem turned_mod {b x k : Nat} (hk : k ≤ 32) (hx : x < 4294967296) : (b + (x * 2 ^ k ||| x / 2 ^ (32 - k))) % 4294967296 = (b + turned x k) % W := by
 have hy : x / 2 ^ (32 - k) < 2 ^ k := by
  rw [Nat.div_lt_iff_lt_mul (Nat.two_pow_pos _), ← Nat.pow_add]
  have : k + (32 - k) = 32 := by omega
  rw [this]
  exact hx
 rw [or_join hy]
 unfold turned
 rw [W_eq]
 omega
end Dw
namespace Dw
open Sn37
abbrev W4 := Nat × Nat × Nat × Nat
def InW (v : W4) : Prop := v.1 < 4294967296 ∧ v.2.1 < 4294967296 ∧ v.2.2.1 < 4294967296 ∧ v.2.2.2 < 4294967296
def mixP (part b c d : Nat) : Nat :=
 if part = 0 then (b &&& c) ||| ((b ^^^ 4294967295) &&& d) else if part = 1 then (d &&& b) ||| ((d ^^^ 4294967295) &&& c) else if part = 2 then (b ^^^ c) ^^^ d else c ^^^ (b ||| (d ^^^ 4294967295))
def chosenP (part i : Nat) : Nat := if part = 0 then i else if part = 1 then (5 * i + 1) % 16 else if part = 2 then (3 * i + 5) % 16 else 7 * i % 16
def totalP (m : List Nat) (v : W4) (i : Nat) : Nat := (v.1 + mixP (i / 16) v.2.1 v.2.2.1 v.2.2.2 + SINES.getD i 0 + m.getD (chosenP (i / 16) i) 0) &&& 4294967295
def turnP (i : Nat) : Nat := TURNS.getD (4 * (i / 16) + i % 4) 0
theorem turnP_le : ∀ i, i < 64 → turnP i ≤ 23 := by decide
theorem chosenP_lt {i : Nat} (h : i < 64) : chosenP (i / 16) i < 16 := by
 unfold chosenP
 split
 ·omega
 ·split
  ·omega
  ·split <;> omega
theorem step_code {m : List Nat} {v : W4} {i : Nat} (hi : i < 64) (hv : InW v) :
  step m v i = (v.2.2.2, (v.2.1 + (totalP m v i * 2 ^ turnP i ||| totalP m v i / 2 ^ (32 - turnP i))) &&& 4294967295, v.2.1, v.2.2.1) := by
 obtain ⟨a, b, c, d⟩ := v
 obtain ⟨_, hb, hc, hd⟩ := hv
 have ht : totalP m (a, b, c, d) i < 4294967296 := by unfold totalP; rw [and_mask]; exact Nat.mod_lt _ (by decide)
 rw [and_mask, turned_mod (Nat.le_trans (turnP_le i hi) (by decide)) ht]
 have ef : mixP (i / 16) b c d = (if i < 16 then (b &&& c) ||| (inverted b &&& d) else if i < 32 then (d &&& b) ||| (inverted d &&& c) else if i < 48 then b ^^^ (c ^^^ d) else c ^^^ (b ||| inverted d)) := by
  unfold mixP
  rw [xor_mask hb, xor_mask hd]
  by_cases h1 : i < 16
  ·rw [if_pos (show i / 16 = 0 by omega), if_pos h1]
  ·rw [if_neg (show ¬ i / 16 = 0 by omega), if_neg h1]
   by_cases h2 : i < 32
   ·rw [if_pos (show i / 16 = 1 by omega), if_pos h2]
   ·rw [if_neg (show ¬ i / 16 = 1 by omega), if_neg h2]
    by_cases h3 : i < 48
    ·rw [if_pos (show i / 16 = 2 by omega), if_pos h3, Nat.xor_assoc]
    ·rw [if_neg (show ¬ i / 16 = 2 by omega), if_neg h3]
 have eg : chosenP (i / 16) i = (if i < 16 then i else if i < 32 then (5 * i + 1) % 16 else if i < 48 then (3 * i + 5) % 16 else 7 * i % 16) := by
  unfold chosenP
  by_cases h1 : i < 16
  ·rw [if_pos (show i / 16 = 0 by omega), if_pos h1]
  ·rw [if_neg (show ¬ i / 16 = 0 by omega), if_neg h1]
   by_cases h2 : i < 32
   ·rw [if_pos (show i / 16 = 1 by omega), if_pos h2]
   ·rw [if_neg (show ¬ i / 16 = 1 by omega), if_neg h2]
    by_cases h3 : i < 48
    ·rw [if_pos (show i / 16 = 2 by omega), if_pos h3]
    ·rw [if_neg (show ¬ i / 16 = 2 by omega), if_neg h3]
 unfold step totalP turnP
 rw [ef, eg, and_mask]
 rfl
theorem step_in {m : List Nat} {v : W4} {i : Nat} (hi : i < 64) (hv : InW v) : InW (step m v i) := by
 rw [step_code hi hv]
 refine ⟨hv.2.2.2, ?_, hv.2.1, hv.2.2.1⟩
 show _ &&& 4294967295 < 4294967296
 rw [and_mask]
 exact Nat.mod_lt _ (by decide)
def turnsAt (m : List Nat) (v : W4) (i : Nat) : W4 := (List.range i).foldl (step m) v
theorem turnsAt_succ (m : List Nat) (v : W4) (i : Nat) : turnsAt m v (i + 1) = step m (turnsAt m v i) i := by
 unfold turnsAt
 rw [List.range_succ, List.foldl_append]
 rfl
theorem turnsAt_in {m : List Nat} {v : W4} (hv : InW v) : ∀ i, i ≤ 64 → InW (turnsAt m v i)
 | 0, _ => hv
 | i + 1, h => by
  rw [turnsAt_succ]
  exact step_in (by omega) (turnsAt_in hv i (by omega))
def stir (v : W4) (m : List Nat) : W4 :=
 ((v.1 + (turnsAt m v 64).1) % W, (v.2.1 + (turnsAt m v 64).2.1) % W, (v.2.2.1 + (turnsAt m v 64).2.2.1) % W, (v.2.2.2 + (turnsAt m v 64).2.2.2) % W)
theorem stir_in (v : W4) (m : List Nat) : InW (stir v m) := ⟨Nat.mod_lt _ (by decide), Nat.mod_lt _ (by decide), Nat.mod_lt _ (by decide), Nat.mod_lt _ (by decide)⟩
def wordsOf (b : Bytes) : List Nat := (List.range 16).map fun i => le ((b.drop (4 * i)).take 4)
theorem wordsOf_take (b : Bytes) : wordsOf (b.take 64) = wordsOf b := by
 unfold wordsOf
 refine List.map_congr_left fun i hi => ?_
 have hi := List.mem_range.mp hi
 rw [List.drop_take, List.take_take]
 congr 2
 omega
def bsf (f : W4 → List Nat → W4) : Nat → Bytes → W4 → W4
 | 0, _, v => v
 | k + 1, b, v => bsf f k (b.drop 64) (f v (wordsOf (b.take 64)))
theorem bsf_succ (f : W4 → List Nat → W4) : ∀ (k : Nat) (b : Bytes) (v : W4), bsf f (k + 1) b v = f (bsf f k b v) (wordsOf ((b.drop (64 * k)).take 64))
 | 0, b, v => by
  rw [Nat.mul_zero, List.drop_zero]
  rfl
 | k + 1, b, v => by
  have h := bsf_succ f k (b.drop 64) (f v (wordsOf (b.take 64)))
  rw [List.drop_drop, show 64 + 64 * k = 64 * (k + 1) by omega] at h
  exact h
def bst : Nat → Bytes → W4 → W4 := bsf stir
theorem bst_succ (k : Nat) (b : Bytes) (v : W4) : bst (k + 1) b v = stir (bst k b v) (wordsOf ((b.drop (64 * k)).take 64)) := bsf_succ stir k b v
theorem bst_in {v : W4} (hv : InW v) : ∀ (k : Nat) (b : Bytes), InW (bst k b v)
 | 0, _ => hv
 | k + 1, b => by
  rw [bst_succ]
  exact stir_in _ _
theorem blocks_nil (n : Nat) (v : W4) : blocks n [] v = v := by
 cases n with
 | zero => rfl
 | succ n => rw [blocks, if_pos rfl]
theorem blocks_more {n : Nat} {b : Bytes} {v : W4} (hne : b ≠ []) : blocks (n + 1) b v = blocks n (b.drop 64) (stir v (wordsOf b)) := by
 rw [blocks, if_neg hne]
 unfold stir turnsAt wordsOf
 rfl
theorem blocks_bsf {g : Nat → Bytes → W4 → W4} {f : W4 → List Nat → W4} (g0 : ∀ n v, g n [] v = v) (g1 : ∀ n b v, b ≠ [] → g (n + 1) b v = g n (b.drop 64) (f v (wordsOf b))) :
  ∀ (k n : Nat) (b : Bytes) (v : W4), b.length = 64 * k → k ≤ n → g n b v = bsf f k b v
 | 0, n, b, v, hl, _ => by
  have e : b = [] := List.length_eq_zero_iff.mp (by omega)
  subst e
  rw [g0]
  rfl
 | k + 1, 0, b, v, hl, h => by omega
 | k + 1, n + 1, b, v, hl, h => by
  have hne : b ≠ [] := by
   intro e
   rw [e] at hl
   simp at hl
  rw [g1 n b v hne, blocks_bsf g0 g1 k n (b.drop 64) _ (by rw [List.length_drop]; omega) (by omega), bsf, wordsOf_take]
theorem blocks_bst (k n : Nat) (b : Bytes) (v : W4) (hl : b.length = 64 * k) (h : k ≤ n) : blocks n b v = bst k b v :=
 blocks_bsf (g := blocks) (f := stir) blocks_nil (fun _ _ _ => blocks_more) k n b v hl h
theorem leBytes_length (n x : Nat) : (leBytes n x).length = n := by simp [leBytes]
theorem leBytes_lt (n x : Nat) : ∀ c ∈ leBytes n x, c < 256 := by
 intro c hc
 obtain ⟨i, _, e⟩ := List.mem_map.mp hc
 rw [← e]
 exact Nat.mod_lt _ (by decide)
def nbk (m : Bytes) : Nat := (m.length + 72) / 64
theorem padded_length (m : Bytes) : (padded m).length = 64 * nbk m := by
 unfold padded nbk
 simp only [List.length_append, List.length_cons, List.length_replicate, leBytes_length]
 omega
theorem md5_bst (m : Bytes) : md5 m =
  leBytes 4 (bst (nbk m) (padded m) (0x67452301, 0xefcdab89, 0x98badcfe, 0x10325476)).1 ++ (leBytes 4 (bst (nbk m) (padded m) (0x67452301, 0xefcdab89, 0x98badcfe, 0x10325476)).2.1 ++
   (leBytes 4 (bst (nbk m) (padded m) (0x67452301, 0xefcdab89, 0x98badcfe, 0x10325476)).2.2.1 ++ leBytes 4 (bst (nbk m) (padded m) (0x67452301, 0xefcdab89, 0x98badcfe, 0x10325476)).2.2.2)) := by
 unfold md5
 rw [blocks_bst (nbk m) _ _ _ (padded_length m) (by unfold nbk; omega)]
theorem md5_length (m : Bytes) : (md5 m).length = 16 := by
 rw [md5_bst]
 simp only [List.length_append, leBytes_length]
theorem md5_lt (m : Bytes) : ∀ c ∈ md5 m, c < 256 := by
 rw [md5_bst]
 intro c hc
 simp only [List.mem_append] at hc
 rcases hc with h | h | h | h <;> exact leBytes_lt _ _ c h
theorem padded_lt {m : Bytes} (h : ∀ c ∈ m, c < 256) : ∀ c ∈ padded m, c < 256 := by
 intro c hc
 unfold padded at hc
 simp only [List.mem_append, List.mem_cons, List.mem_replicate] at hc
 rcases hc with hc | hc | ⟨_, hc⟩ | hc
 ·exact h c hc
 ·omega
 ·omega
 ·exact leBytes_lt _ _ c hc
theorem padded_code (m : Bytes) : padded m = ((m ++ [128]) ++ List.replicate ((55 - (m.length : Int)) % 64).toNat 0) ++ leBytes 8 (8 * m.length) := by
 unfold padded
 have e : ((55 - (m.length : Int)) % 64).toNat = (119 - m.length % 64) % 64 := by omega
 rw [e]
 simp [List.append_assoc]
theorem le4 (a b c d : Nat) : le [a, b, c, d] = a + 256 * (b + 256 * (c + 256 * (d + 256 * 0))) := rfl
theorem hmac_length (k m : Bytes) : (hmac k m).length = 16 := md5_length _
theorem word_or {a b c d : Nat} (ha : a < 256) (hb : b < 256) (hc : c < 256) (hd : d < 256) : ((a ||| b * 2 ^ 8) ||| c * 2 ^ 16) ||| d * 2 ^ 24 = le [a, b, c, d] := by
 have e1 : a ||| b * 2 ^ 8 = b * 2 ^ 8 + a := by rw [Nat.or_comm]; exact or_join (by omega)
 have e2 : (b * 2 ^ 8 + a) ||| c * 2 ^ 16 = c * 2 ^ 16 + (b * 2 ^ 8 + a) := by rw [Nat.or_comm]; exact or_join (by omega)
 have e3 : (c * 2 ^ 16 + (b * 2 ^ 8 + a)) ||| d * 2 ^ 24 = d * 2 ^ 24 + (c * 2 ^ 16 + (b * 2 ^ 8 + a)) := by rw [Nat.or_comm]; exact or_join (by omega)
 rw [e1, e2, e3, le4]
 omega
theorem le_lt {b : Bytes} (h : ∀ c ∈ b, c < 256) (hl : b.length ≤ 4) : le b < 4294967296 := by
 match b, h, hl with
 | [], _, _ => decide
 | [a], h, _ =>
  have := h a (by simp)
  show a + 256 * 0 < _
  omega
 | [a, b], h, _ =>
  have h1 := h a (by simp)
  have h2 := h b (by simp)
  show a + 256 * (b + 256 * 0) < _
  omega
 | [a, b, c], h, _ =>
  have h1 := h a (by simp)
  have h2 := h b (by simp)
  have h3 := h c (by simp)
  show a + 256 * (b + 256 * (c + 256 * 0)) < _
  omega
 | [a, b, c, d], h, _ =>
  have h1 := h a (by simp)
  have h2 := h b (by simp)
  have h3 := h c (by simp)
  have h4 := h d (by simp)
  show a + 256 * (b + 256 * (c + 256 * (d + 256 * 0))) < _
  omega
 | a :: b :: c :: d :: e :: r, _, hl => simp at hl
theorem wordsOf_lt {b : Bytes} (h : ∀ c ∈ b, c < 256) : ∀ x ∈ wordsOf b, x < 4294967296 := by
 intro x hx
 obtain ⟨i, _, e⟩ := List.mem_map.mp hx
 rw [← e]
 exact le_lt (fun c hc => h c (List.mem_of_mem_drop (List.mem_of_mem_take hc))) (by rw [List.length_take]; omega)
theorem wordsOf_length (b : Bytes) : (wordsOf b).length = 16 := by simp [wordsOf]
end Dw
namespace Dw
open Sn37
def partA (mark : Nat) : Bytes → Bytes → List Bytes
 | [], p => [p]
 | c :: r, p => if c = mark then p :: partA mark r [] else partA mark r (p ++ [c])
theorem partA_length (mark : Nat) : ∀ (b p : Bytes), (partA mark b p).length ≤ b.length + 1
 | [], p => by simp [partA]
 | c :: r, p => by
  unfold partA
  split
  ·have := partA_length mark r []
   simp; omega
  ·have := partA_length mark r (p ++ [c])
   simp; omega
theorem partA_mem (mark : Nat) {q : Nat → Prop} : ∀ (b p : Bytes), (∀ c ∈ b, q c) → (∀ c ∈ p, q c) → ∀ l ∈ partA mark b p, ∀ c ∈ l, q c
 | [], p, _, hp, l, hl => by
  simp [partA] at hl
  subst hl
  exact hp
 | c :: r, p, hb, hp, l, hl => by
  unfold partA at hl
  have hr : ∀ d ∈ r, q d := fun d hd => hb d (List.mem_cons_of_mem _ hd)
  split at hl
  ·rcases List.mem_cons.mp hl with e | hl
   ·rw [e]; exact hp
   ·exact partA_mem mark r [] hr (fun d hd => absurd hd List.not_mem_nil) l hl
  ·refine partA_mem mark r (p ++ [c]) hr (fun d hd => ?_) l hl
   rcases List.mem_append.mp hd with h | h
   ·exact hp d h
   ·rw [List.mem_singleton.mp h]; exact hb c List.mem_cons_self
theorem partA_size (mark : Nat) : ∀ (b p : Bytes), ∀ l ∈ partA mark b p, l.length ≤ b.length + p.length
 | [], p, l, hl => by
  simp [partA] at hl
  subst hl
  simp
 | c :: r, p, l, hl => by
  unfold partA at hl
  split at hl
  ·rcases List.mem_cons.mp hl with e | hl
   ·rw [e]; simp
   ·have := partA_size mark r [] l hl
    simp at this ⊢; omega
  ·have := partA_size mark r (p ++ [c]) l hl
   simp at this ⊢; omega
theorem line_nil (s : Settings) : line s [] = some s := by
 unfold line
 rw [if_neg (by decide)]
 rfl
theorem linesFrom_cons (k : Nat) (b : Bytes) (r : List Bytes) (s : Settings) : linesFrom k (b :: r) s = match line s b with | none => .error k | some t => linesFrom (k + 1) r t := rfl
theorem lines_cons10 (r l : Bytes) : lines (10 :: r) l = l :: lines r [] := by
 rw [lines]
theorem lines_cons {c : Nat} (r l : Bytes) (h : c ≠ 10) : lines (c :: r) l = lines r (l ++ [c]) := by
 rw [lines]
 exact h
theorem linesFrom_part : ∀ (b l : Bytes) (k : Nat) (s : Settings), linesFrom k (partA 10 b l) s = linesFrom k (lines b l) s
 | [], l, k, s => by
  cases l with
  | nil =>
   show linesFrom k [[]] s = linesFrom k (lines [] []) s
   rw [linesFrom_cons, line_nil, lines]
   rfl
  | cons c r => rw [lines, partA]; exact fun h => nomatch h
 | c :: r, l, k, s => by
  by_cases h : c = 10
  ·subst h
   rw [lines_cons10, partA, if_pos rfl, linesFrom_cons, linesFrom_cons]
   cases line s l with
   | none => rfl
   | some t => exact linesFrom_part r [] (k + 1) t
  ·rw [lines_cons r l h, partA, if_neg h]
   exact linesFrom_part r (l ++ [c]) k s
theorem words_cons32 (r w : Bytes) : words (32 :: r) w = if w = [] then words r [] else w :: words r [] := by
 rw [words]
theorem words_cons {c : Nat} (r w : Bytes) (h : c ≠ 32) : words (c :: r) w = words r (w ++ [c]) := by
 rw [words]
 exact h
theorem words_part : ∀ (b w : Bytes), words b w = (partA 32 b w).filter fun l => decide (0 < l.length)
 | [], w => by
  cases w with
  | nil => rw [words]; rfl
  | cons c r =>
   rw [words]
   ·simp [partA]
   ·exact fun h => nomatch h
 | c :: r, w => by
  by_cases h : c = 32
  ·subst h
   rw [words_cons32, partA, if_pos rfl]
   cases w with
   | nil =>
    rw [if_pos rfl, words_part r [], List.filter_cons_of_neg (by simp)]
   | cons a t =>
    rw [if_neg (by simp), words_part r [], List.filter_cons_of_pos (by simp)]
  ·rw [words_cons r w h, partA, if_neg h]
   exact words_part r (w ++ [c])
theorem printable_blank (b : Bytes) : printable (b.filter fun c => c != 32) = b.all fun c => decide (32 ≤ c) && decide (c ≤ 126) := by
 unfold printable
 induction b with
 | nil => rfl
 | cons c r ih =>
  by_cases h : c = 32
  ·subst h
   rw [List.filter_cons_of_neg (by decide), ih, List.all_cons]
   rfl
  ·rw [List.filter_cons_of_pos (by simp [h]), List.all_cons, List.all_cons, ih]
   congr 2
   exact decide_eq_decide.mpr ⟨fun q => by omega, fun q => by omega⟩
def clientWords (s : Settings) : List Bytes → Option Settings
 | [k, x] => (number 255 k).bind fun k => if 64 < x.length ∨ (s.clients.any fun c => c.1 == k) = true then none else some { s with clients := s.clients ++ [(k, x)] }
 | _ => none
def userWords (s : Settings) : List Bytes → Option Settings
 | k :: x :: r => userLine s k x r
 | _ => none
def wordsIn (s : Settings) : List Bytes → Option Settings
 | [] => some s
 | w :: ws => if w = ascii "client" then clientWords s ws else if w = ascii "user" then userWords s ws else none
theorem cl_us : ascii "client" ≠ ascii "user" := by decide
theorem line_words (s : Settings) (b : Bytes) : line s b = if (b.all fun c => decide (32 ≤ c) && decide (c ≤ 126)) = false then none else wordsIn s ((partA 32 b []).filter fun l => decide (0 < l.length)) := by
 unfold line
 rw [printable_blank, words_part]
 split
 ·rfl
 ·generalize (partA 32 b []).filter (fun l => decide (0 < l.length)) = ws
  match ws with
  | [] => rfl
  | [w] =>
   show none = if w = ascii "client" then none else if w = ascii "user" then none else none
   split
   ·rfl
   ·split <;> rfl
  | [w, k] =>
   show none = if w = ascii "client" then none else if w = ascii "user" then none else none
   split
   ·rfl
   ·split <;> rfl
  | [w, k, x] => rfl
  | w :: k :: x :: y :: r =>
   show (if w = ascii "user" then userLine s k x (y :: r) else none) = if w = ascii "client" then none else if w = ascii "user" then userLine s k x (y :: r) else none
   by_cases h : w = ascii "client"
   ·rw [if_pos h, if_neg (by rw [h]; exact cl_us)]
   ·rw [if_neg h]
def numV (d : Bytes) : Nat := d.foldl (fun n c => 10 * n + (c - 48)) 0
theorem number_eq (most : Nat) (d : Bytes) : number most d = if d ≠ [] ∧ d.length ≤ 10 ∧ d.all digit = true ∧ numV d ≤ most then some (numV d) else none := rfl
theorem numV_snoc (d : Bytes) (c : Nat) : numV (d ++ [c]) = 10 * numV d + (c - 48) := by
 unfold numV
 rw [List.foldl_append]
 rfl
theorem number_le {most n : Nat} {d : Bytes} (h : number most d = some n) : n ≤ most := by
 rw [number_eq] at h
 split at h
 ·rename_i q
  have e := Option.some.inj h
  rw [← e]
  exact q.2.2.2
 ·cases h
theorem high4 (n : Nat) : high 4 n = [n / 256 ^ 3 % 256, n / 256 ^ 2 % 256, n / 256 ^ 1 % 256, n / 256 ^ 0 % 256] := by
 unfold high leBytes
 rfl
theorem high4_code {n : Nat} (h : n < 4294967296) : high 4 n = [n / 2 ^ 24, (n / 2 ^ 16) &&& 255, (n / 2 ^ 8) &&& 255, n &&& 255] := by
 rw [high4, and_255, and_255, and_255]
 simp only [List.cons.injEq, and_true]
 refine ⟨?_, trivial, trivial, ?_⟩
 ·show n / 16777216 % 256 = n / 16777216
  omega
 ·show n / 1 % 256 = n % 256
  rw [Nat.div_one]
theorem high2 (n : Nat) : high 2 n = [n / 256 ^ 1 % 256, n / 256 ^ 0 % 256] := by
 unfold high leBytes
 rfl
def labelOf (w : Bytes) : Bytes := w.takeWhile fun c => c != 61
theorem label_full (w : Bytes) : (labelOf w).length = w.length ↔ ¬ 61 ∈ w := by
 unfold labelOf
 induction w with
 | nil => simp
 | cons c r ih =>
  rw [List.takeWhile_cons]
  by_cases h : c = 61
  ·simp [h]
  ·have h' : ¬ 61 = c := fun e => h e.symm
   simp [h, h', ih]
theorem label_take (w : Bytes) : labelOf w = w.take (labelOf w).length := by
 unfold labelOf
 induction w with
 | nil => simp
 | cons c r ih =>
  rw [List.takeWhile_cons]
  split
  ·rw [List.length_cons, List.take_succ_cons, ← ih]
  ·rfl
theorem label_first (w : Bytes) (h : 61 ∈ w) : w[(labelOf w).length]? = some 61 ∧ ∀ j : Nat, j < (labelOf w).length → ∀ c, w[j]? = some c → c ≠ 61 := by
 unfold labelOf
 induction w with
 | nil => cases h
 | cons c r ih =>
  rw [List.takeWhile_cons]
  by_cases hc : c = 61
  ·subst hc
   rw [if_neg (by decide)]
   exact ⟨rfl, fun j hj => by simp at hj⟩
  ·rw [if_pos (by simp [hc])]
   have hr : 61 ∈ r := by
    rcases List.mem_cons.mp h with e | e
    ·exact absurd e.symm hc
    ·exact e
   obtain ⟨h1, h2⟩ := ih hr
   refine ⟨by rw [List.length_cons, List.getElem?_cons_succ]; exact h1, fun j hj d hd => ?_⟩
   cases j with
   | zero =>
    rw [List.getElem?_cons_zero] at hd
    rw [← Option.some.inj hd]
    exact hc
   | succ j =>
    rw [List.getElem?_cons_succ] at hd
    exact h2 j (by rw [List.length_cons] at hj; omega) d hd
end Dw
namespace Dw
open Sn37
abbrev At3 := Nat × Nat × Bytes
def two (a : At3) : Nat × Bytes := (a.1, a.2.2)
def attrsP : Nat → Nat → Bytes → Option (List At3)
 | 0, _, _ => none
 | n + 1, st, b => match b with
  | [] => some []
  | k :: l :: r => if l < 3 ∨ r.length < l - 2 then none else (attrsP n (st + l) (r.drop (l - 2))).map fun m => (k, st + 2, r.take (l - 2)) :: m
  | _ => none
theorem attrsP_two : ∀ (n st : Nat) (b : Bytes), (attrsP n st b).map (List.map two) = attrs n b
 | 0, st, b => rfl
 | n + 1, st, b => by
  unfold attrsP attrs
  match b with
  | [] => rfl
  | [k] => rfl
  | k :: l :: r =>
   show Option.map (List.map two) (if l < 3 ∨ r.length < l - 2 then none else (attrsP n (st + l) (r.drop (l - 2))).map fun m => (k, st + 2, r.take (l - 2)) :: m) = if l < 3 ∨ r.length < l - 2 then none else (attrs n (r.drop (l - 2))).map fun m => (k, r.take (l - 2)) :: m
   split
   ·rfl
   ·rw [← attrsP_two n (st + l) (r.drop (l - 2))]
    cases attrsP n (st + l) (r.drop (l - 2)) <;> rfl
theorem attrsP_fuel : ∀ (n m st : Nat) (b : Bytes), b.length < n → b.length < m → attrsP n st b = attrsP m st b
 | 0, _, _, _, h, _ => by omega
 | _, 0, _, _, _, h => by omega
 | n + 1, m + 1, st, b, h1, h2 => by
  unfold attrsP
  match b with
  | [] => rfl
  | [k] => rfl
  | k :: l :: r =>
   show (if l < 3 ∨ r.length < l - 2 then none else (attrsP n (st + l) (r.drop (l - 2))).map fun q => (k, st + 2, r.take (l - 2)) :: q) = if l < 3 ∨ r.length < l - 2 then none else (attrsP m (st + l) (r.drop (l - 2))).map fun q => (k, st + 2, r.take (l - 2)) :: q
   split
   ·rfl
   ·simp only [List.length_cons] at h1 h2
    rw [attrsP_fuel n m (st + l) (r.drop (l - 2)) (by rw [List.length_drop]; omega) (by rw [List.length_drop]; omega)]
inductive Placed : Nat → List At3 → Prop
 | nil (st : Nat) : Placed st []
 | cons {st k : Nat} {v : Bytes} {m : List At3} (h1 : 1 ≤ v.length) (h2 : Placed (st + (v.length + 2)) m) : Placed st ((k, st + 2, v) :: m)
theorem attrsP_is : ∀ (n st : Nat) (b : Bytes) (m : List At3), attrsP n st b = some m → Placed st m ∧ b = attrBytes (m.map two)
 | 0, _, _, _, h => by cases h
 | n + 1, st, b, m, h => by
  unfold attrsP at h
  match b, h with
  | [], h =>
   have e := Option.some.inj h
   subst e
   exact ⟨.nil _, rfl⟩
  | [k], h => cases h
  | k :: l :: r, h =>
   have h' : (if l < 3 ∨ r.length < l - 2 then none else (attrsP n (st + l) (r.drop (l - 2))).map fun q => (k, st + 2, r.take (l - 2)) :: q) = some m := h
   split at h'
   ·cases h'
   ·rename_i hl
    cases e : attrsP n (st + l) (r.drop (l - 2)) with
    | none => rw [e] at h'; cases h'
    | some q =>
     rw [e] at h'
     have e' := Option.some.inj h'
     obtain ⟨p1, p2⟩ := attrsP_is n (st + l) (r.drop (l - 2)) q e
     have hlen : (r.take (l - 2)).length = l - 2 := by rw [List.length_take]; omega
     rw [← e']
     refine ⟨.cons (by rw [hlen]; omega) (by rw [hlen, show st + (l - 2 + 2) = st + l by omega]; exact p1), ?_⟩
     show k :: l :: r = k :: ((r.take (l - 2)).length + 2) :: (r.take (l - 2) ++ attrBytes (q.map two))
     rw [← p2, List.take_append_drop, hlen, show l - 2 + 2 = l by omega]
theorem attrBytes_cons (k : Nat) (v : Bytes) (m : List (Nat × Bytes)) : attrBytes ((k, v) :: m) = (k :: (v.length + 2) :: v) ++ attrBytes m := rfl
theorem attrBytes_append (a b : List (Nat × Bytes)) : attrBytes (a ++ b) = attrBytes a ++ attrBytes b := by
 unfold attrBytes
 rw [List.flatMap_append]
theorem attrBytes_length_cons (k : Nat) (v : Bytes) (m : List (Nat × Bytes)) : (attrBytes ((k, v) :: m)).length = v.length + 2 + (attrBytes m).length := by
 rw [attrBytes_cons]
 simp
 omega
def zeroed (d : Bytes) (place : Nat) : Bytes := d.take place ++ List.replicate 16 0 ++ d.drop (place + 16)
def unsum (a : Nat × Bytes) : Nat × Bytes := if a.1 = 80 then (80, List.replicate 16 0) else a
theorem unsum_none {m : List At3} (h : m.filter (fun a => a.1 == 80) = []) : (m.map two).map unsum = m.map two := by
 rw [List.map_map]
 refine List.map_congr_left fun a ha => ?_
 have : ¬ a.1 = 80 := fun e => by
  have hm : a ∈ m.filter (fun a => a.1 == 80) := List.mem_filter.mpr ⟨ha, by simp [e]⟩
  rw [h] at hm
  cases hm
 show unsum (two a) = two a
 unfold unsum two
 rw [if_neg this]
theorem zeroed_attrs : ∀ (m : List At3) (st pl : Nat) (x hd : Bytes), Placed st m → hd.length = st → m.filter (fun a => a.1 == 80) = [(80, pl, x)] → x.length = 16 →
  zeroed (hd ++ attrBytes (m.map two)) pl = hd ++ attrBytes ((m.map two).map unsum)
 | [], _, _, _, _, _, _, h, _ => by cases h
 | (k, q, v) :: m, st, pl, x, hd, p, hl, h, hx => by
  cases p with
  | cons h1 h2 =>
   by_cases hk : k = 80
   ·subst hk
    rw [List.filter_cons_of_pos (by simp)] at h
    obtain ⟨e1, e2⟩ := List.cons.inj h
    cases e1
    show zeroed (hd ++ attrBytes ((80, v) :: m.map two)) (st + 2) = hd ++ attrBytes (unsum (80, v) :: (m.map two).map unsum)
    rw [unsum_none e2]
    show _ = hd ++ attrBytes ((80, List.replicate 16 0) :: m.map two)
    rw [attrBytes_cons, attrBytes_cons]
    unfold zeroed
    have e3 : hd ++ ((80 :: (v.length + 2) :: v) ++ attrBytes (m.map two)) = (hd ++ [80, v.length + 2]) ++ (v ++ attrBytes (m.map two)) := by simp
    have l3 : (hd ++ [80, v.length + 2]).length = st + 2 := by simp [hl]
    rw [e3, List.take_append_of_le_length (by omega), List.take_of_length_le (by omega), List.drop_append, List.drop_of_length_le (by omega), l3, show st + 2 + 16 - (st + 2) = 16 by omega,
     List.drop_append, List.drop_of_length_le (by omega), hx]
    simp
   ·rw [List.filter_cons_of_neg (by simp [hk])] at h
    have e3 : hd ++ attrBytes (((k, st + 2, v) :: m).map two) = (hd ++ (k :: (v.length + 2) :: v)) ++ attrBytes (m.map two) := by
     show hd ++ attrBytes ((k, v) :: m.map two) = _
     rw [attrBytes_cons]
     simp
    rw [e3, zeroed_attrs m (st + (v.length + 2)) pl x _ h2 (by simp [hl]) h hx]
    show _ = hd ++ attrBytes (unsum (k, v) :: (m.map two).map unsum)
    have e4 : unsum (k, v) = (k, v) := by unfold unsum; rw [if_neg hk]
    rw [e4, attrBytes_cons]
    simp
structure PkOk (p : Packet) (m : List At3) : Prop where
 as : p.attrs = m.map two
 pl : Placed 20 m
 len : 20 ≤ p.whole.length
 most : p.whole.length ≤ 4096
 rest : p.whole.drop 20 = attrBytes (m.map two)
 au : p.auth = (p.whole.drop 4).take 16
 by_ : ∀ c ∈ p.whole, c < 256
theorem getD_take {b : Bytes} {i n : Nat} (h : i < n) : (b.take n).getD i 0 = b.getD i 0 := by
 simp [List.getD_eq_getElem?_getD, h]
def dataLen (b : Bytes) : Nat := 256 * b.getD 2 0 + b.getD 3 0
def readP (b : Bytes) : Option (List At3) := if b.length < 20 ∨ dataLen b < 20 ∨ 4096 < dataLen b ∨ b.length < dataLen b then none else attrsP (dataLen b + 1) 20 ((b.take (dataLen b)).drop 20)
theorem readP_none {b : Bytes} (h : readP b = none) : packet b = none := by
 unfold readP at h
 unfold packet
 show (if b.length < 20 ∨ dataLen b < 20 ∨ 4096 < dataLen b ∨ b.length < dataLen b then none else _) = none
 split at h
 ·rename_i q
  rw [if_pos q]
 ·rename_i q
  rw [if_neg q]
  have hl : ((b.take (dataLen b)).drop 20).length = dataLen b - 20 := by rw [List.length_drop, List.length_take]; omega
  rw [attrsP_fuel _ (dataLen b) 20 _ (by rw [hl]; omega) (by rw [hl]; omega)] at h
  have e := attrsP_two (dataLen b) 20 ((b.take (dataLen b)).drop 20)
  rw [h] at e
  show (attrs (dataLen b) ((b.take (dataLen b)).drop 20)).map _ = none
  rw [← e]
  rfl
theorem readP_some {b : Bytes} {m : List At3} (h : readP b = some m) (hb : ∀ c ∈ b, c < 256) :
  ∃ p, packet b = some p ∧ PkOk p m ∧ p.whole = b.take (dataLen b) ∧ p.code = (b.take (dataLen b)).getD 0 0 ∧ p.id = (b.take (dataLen b)).getD 1 0 := by
 unfold readP at h
 split at h
 ·cases h
 ·rename_i q
  have hl : ((b.take (dataLen b)).drop 20).length = dataLen b - 20 := by rw [List.length_drop, List.length_take]; omega
  have ht : (b.take (dataLen b)).length = dataLen b := by rw [List.length_take]; omega
  rw [attrsP_fuel _ (dataLen b) 20 _ (by rw [hl]; omega) (by rw [hl]; omega)] at h
  have e := attrsP_two (dataLen b) 20 ((b.take (dataLen b)).drop 20)
  rw [h] at e
  obtain ⟨p1, p2⟩ := attrsP_is _ _ _ _ h
  refine ⟨⟨b.getD 0 0, b.getD 1 0, (b.drop 4).take 16, m.map two, b.take (dataLen b)⟩, ?_, ⟨rfl, p1, by show 20 ≤ (b.take (dataLen b)).length; omega, by show (b.take (dataLen b)).length ≤ 4096; omega, p2, ?_, fun c hc => hb c (List.mem_of_mem_take hc)⟩, rfl, ?_, ?_⟩
  ·unfold packet
   show (if b.length < 20 ∨ dataLen b < 20 ∨ 4096 < dataLen b ∨ b.length < dataLen b then none else (attrs (dataLen b) ((b.take (dataLen b)).drop 20)).map _) = _
   rw [if_neg q, ← e]
   rfl
  ·show (b.drop 4).take 16 = ((b.take (dataLen b)).drop 4).take 16
   rw [List.drop_take, List.take_take, show min 16 (dataLen b - 4) = 16 by omega]
  ·exact (getD_take (by omega)).symm
  ·exact (getD_take (by omega)).symm
theorem all_eq {p : Packet} {m : List At3} (h : p.attrs = m.map two) (k : Nat) : p.all k = (m.filter fun a => a.1 == k).map fun a => a.2.2 := by
 unfold Packet.all
 rw [h, List.filter_map, List.map_map]
 rfl
theorem blanked_eq {p : Packet} {m : List At3} (h : PkOk p m) {auth x : Bytes} {pl : Nat} (ha : auth.length = 16) (hf : m.filter (fun a => a.1 == 80) = [(80, pl, x)]) (hx : x.length = 16) :
  zeroed (p.whole.take 4 ++ (auth ++ p.whole.drop 20)) pl = blanked p auth := by
 have hlen := h.len
 rw [h.rest, ← List.append_assoc, zeroed_attrs m 20 pl x _ h.pl (by rw [List.length_append, List.length_take, ha]; omega) hf hx]
 unfold blanked
 rw [h.as, List.append_assoc]
 rfl
theorem auth_length {p : Packet} {m : List At3} (h : PkOk p m) : p.auth.length = 16 := by
 have := h.len
 rw [h.au, List.length_take, List.length_drop]
 omega
theorem whole_parts {p : Packet} {m : List At3} (h : PkOk p m) : p.whole = p.whole.take 4 ++ (p.auth ++ p.whole.drop 20) := by
 have hlen := h.len
 rw [h.au, ← List.append_assoc]
 have e : p.whole.take 4 ++ (p.whole.drop 4).take 16 = p.whole.take 20 := by rw [show (20 : Nat) = 4 + 16 by rfl, List.take_add]
 rw [e, List.take_append_drop]
def asked80 (p : Packet) : Bool := !(p.all 80).isEmpty
def bodyOf (p : Packet) (l : List (Nat × Bytes)) : Bytes := attrBytes (l ++ carried p)
def lenOf (p : Packet) (l : List (Nat × Bytes)) : Nat := 20 + (bodyOf p l).length + if asked80 p = true then 18 else 0
theorem answer_length (p : Packet) (secret : Bytes) (code : Nat) (l : List (Nat × Bytes)) : (answer p secret code l).length = lenOf p l := by
 unfold answer lenOf bodyOf asked80
 simp only [List.length_append, List.length_cons, md5_length]
 have h2 : ∀ n, (high 2 n).length = 2 := fun n => by rw [high2]; rfl
 split
 ·rename_i q
  simp only [List.length_append, List.length_cons, hmac_length, h2]
  omega
 ·simp only [h2]
  omega
theorem high2_code {n : Nat} (h : n ≤ 4096) : high 2 n = [n / 256, n % 256] := by
 rw [high2]
 simp only [List.cons.injEq, and_true]
 refine ⟨?_, ?_⟩
 ·show n / 256 % 256 = n / 256
  omega
 ·show n / 1 % 256 = n % 256
  rw [Nat.div_one]
theorem answer_plain {p : Packet} {secret : Bytes} {code : Nat} {l : List (Nat × Bytes)} (h : asked80 p = false) (hl : lenOf p l ≤ 4096) :
  answer p secret code l = [code, p.id, lenOf p l / 256, lenOf p l % 256] ++ md5 ([code, p.id, lenOf p l / 256, lenOf p l % 256] ++ p.auth ++ bodyOf p l ++ secret) ++ bodyOf p l := by
 have e : lenOf p l = 20 + (bodyOf p l).length + 0 := by unfold lenOf; rw [h]; rfl
 have h' : ¬ (!(p.all 80).isEmpty) = true := by
  show ¬ asked80 p = true
  rw [h]
  decide
 unfold answer
 simp only [if_neg h']
 show code :: p.id :: high 2 (20 + (bodyOf p l).length + 0) ++ (md5 (code :: p.id :: high 2 (20 + (bodyOf p l).length + 0) ++ (p.auth ++ (bodyOf p l ++ secret))) ++ bodyOf p l) = _
 rw [← e, high2_code hl]
 simp
theorem answer_summed {p : Packet} {secret : Bytes} {code : Nat} {l : List (Nat × Bytes)} (h : asked80 p = true) (hl : lenOf p l ≤ 4096) :
  let head := [code, p.id, lenOf p l / 256, lenOf p l % 256]
  let b0 := bodyOf p l ++ (80 :: 18 :: List.replicate 16 0)
  let b1 := (bodyOf p l ++ [80, 18]) ++ hmac secret (head ++ p.auth ++ b0)
  answer p secret code l = head ++ md5 (head ++ p.auth ++ b1 ++ secret) ++ b1 := by
 have e : lenOf p l = 20 + (bodyOf p l).length + 18 := by unfold lenOf; rw [h]; rfl
 have h' : (!(p.all 80).isEmpty) = true := h
 unfold answer
 simp only [if_pos h']
 show code :: p.id :: high 2 (20 + (bodyOf p l).length + 18) ++ (md5 (code :: p.id :: high 2 (20 + (bodyOf p l).length + 18) ++ (p.auth ++ ((bodyOf p l ++ (80 :: 18 :: hmac secret (code :: p.id :: high 2 (20 + (bodyOf p l).length + 18) ++ (p.auth ++ (bodyOf p l ++ (80 :: 18 :: List.replicate 16 0)))))) ++ secret))) ++ (bodyOf p l ++ (80 :: 18 :: hmac secret (code :: p.id :: high 2 (20 + (bodyOf p l).length + 18) ++ (p.auth ++ (bodyOf p l ++ (80 :: 18 :: List.replicate 16 0))))))) = _
 rw [← e, high2_code hl]
 simp
theorem carried_eq {p : Packet} {m : List At3} (h : p.attrs = m.map two) : carried p = (m.filter fun a => a.1 == 33).map two := by
 unfold carried
 rw [h, List.filter_map]
 rfl
theorem asked80_eq {p : Packet} {m : List At3} (h : p.attrs = m.map two) : asked80 p = decide (0 < (m.filter fun a => a.1 == 80).length) := by
 unfold asked80
 rw [all_eq h]
 cases m.filter (fun a => a.1 == 80) with
 | nil => rfl
 | cons a r => rfl
theorem shown_nil (secret prev : Bytes) (n : Nat) : shown secret n prev [] = [] := by
 cases n with
 | zero => rfl
 | succ n => rw [shown, if_pos rfl]
theorem shown_more {secret prev b : Bytes} {n : Nat} (h : b ≠ []) : shown secret (n + 1) prev b = mix (b.take 16) (md5 (secret ++ prev)) ++ shown secret n (b.take 16) (b.drop 16) := by
 rw [shown, if_neg h]
theorem bare_snoc0 (b : Bytes) : bare (b ++ [0]) = bare b := by
 unfold bare
 simp
theorem bare_snoc {c : Nat} (b : Bytes) (h : c ≠ 0) : bare (b ++ [c]) = b ++ [c] := by
 unfold bare
 simp [h]
end Dw
namespace Dw
open Sn37
inductive Next (cs : List (List (List Int))) : List Int → Prop
 | begin_ (n : Int) (r : List Int) (cs' : List (List (List Int))) (f : Nat) (h0 : 0 ≤ n) (h1 : n.toNat ≤ r.length) (e : cs = [[0], r.take n.toNat] :: cs') (h : PyFlat.calls PySn37.shape f (r.drop n.toNat) = some cs') : Next cs (0 :: n :: r)
 | packet (c w m n : Int) (r : List Int) (cs' : List (List (List Int))) (f : Nat) (h0 : 0 ≤ n) (h1 : n.toNat ≤ r.length) (e : cs = [[1, c, w, m], r.take n.toNat] :: cs') (h : PyFlat.calls PySn37.shape f (r.drop n.toNat) = some cs') : Next cs (1 :: c :: w :: m :: n :: r)
 | sessions (m : Int) (r : List Int) (cs' : List (List (List Int))) (f : Nat) (e : cs = [[2, m]] :: cs') (h : PyFlat.calls PySn37.shape f r = some cs') : Next cs (2 :: m :: r)
theorem calls_more {sh : Int → Option (Nat × Nat)} {f : Nat} {p : Int} {r : List Int} {cs : List (List (List Int))} (h : PyFlat.calls sh (f + 1) (p :: r) = some cs) :
  ∃ c t cs', PyFlat.call sh (p :: r) = some (c, t) ∧ PyFlat.calls sh f t = some cs' ∧ cs = c :: cs' := by
 unfold PyFlat.calls at h
 cases e : PyFlat.call sh (p :: r) with
 | none => rw [e] at h; cases h
 | some q =>
  obtain ⟨c, t⟩ := q
  rw [e] at h
  dsimp only at h
  cases e2 : PyFlat.calls sh f t with
  | none => rw [e2] at h; cases h
  | some cs' =>
   rw [e2] at h
   exact ⟨c, t, cs', rfl, e2, (Option.some.inj h).symm⟩
theorem rows1 {r : List Int} {xs : List (List Int)} {t : List Int} (h : PyFlat.rows 1 r = some (xs, t)) : ∃ n q, r = n :: q ∧ 0 ≤ n ∧ n.toNat ≤ q.length ∧ xs = [q.take n.toNat] ∧ t = q.drop n.toNat := by
 unfold PyFlat.rows PyFlat.rows PyFlat.row at h
 cases r with
 | nil => cases h
 | cons n q =>
  dsimp only at h
  by_cases hn : 0 ≤ n ∧ n.toNat ≤ q.length
  ·rw [if_pos hn] at h
   dsimp only at h
   cases h
   exact ⟨n, q, rfl, hn.1, hn.2, rfl, rfl⟩
  ·rw [if_neg hn] at h
   cases h
theorem next_of {f : Nat} {p : Int} {r : List Int} {cs : List (List (List Int))} (h : PyFlat.calls PySn37.shape f (p :: r) = some cs) : Next cs (p :: r) := by
 cases f with
 | zero => cases h
 | succ f =>
  obtain ⟨c, t, cs', h1, h2, e⟩ := calls_more h
  unfold PyFlat.call at h1
  dsimp only at h1
  by_cases p0 : p = 0
  ·subst p0
   rw [show PySn37.shape 0 = some (0, 1) from rfl] at h1
   dsimp only at h1
   rw [if_neg (by omega), List.drop_zero] at h1
   cases e3 : PyFlat.rows 1 r with
   | none => rw [e3] at h1; cases h1
   | some q =>
    obtain ⟨xs, t'⟩ := q
    rw [e3] at h1
    cases h1
    obtain ⟨n, q, rfl, hn, hl, rfl, rfl⟩ := rows1 e3
    exact .begin_ n q cs' f hn hl e h2
  ·by_cases p1 : p = 1
   ·subst p1
    rw [show PySn37.shape 1 = some (3, 1) from rfl] at h1
    dsimp only at h1
    split at h1
    ·cases h1
    ·rename_i hr
     match r, hr, h1 with
     | [], hr, _ => exact absurd (by simp) hr
     | [_], hr, _ => exact absurd (by simp) hr
     | [_, _], hr, _ => exact absurd (by simp) hr
     | c0 :: w :: m :: r', _, h1 =>
      have h1' : (match PyFlat.rows 1 r' with | none => none | some (xs, t) => some ((1 :: [c0, w, m]) :: xs, t)) = some (c, t) := h1
      cases e3 : PyFlat.rows 1 r' with
      | none => rw [e3] at h1'; cases h1'
      | some q =>
       obtain ⟨xs, t'⟩ := q
       rw [e3] at h1'
       cases h1'
       obtain ⟨n, q, rfl, hn, hl, rfl, rfl⟩ := rows1 e3
       exact .packet c0 w m n q cs' f hn hl e h2
   ·by_cases p2 : p = 2
    ·subst p2
     rw [show PySn37.shape 2 = some (1, 0) from rfl] at h1
     dsimp only at h1
     split at h1
     ·cases h1
     ·rename_i hr
      match r, hr, h1 with
      | [], hr, _ => exact absurd (by simp) hr
      | m :: r', _, h1 =>
       have h1' : some ([[2, m]], r') = some (c, t) := h1
       have e5 := Option.some.inj h1'
       obtain ⟨e6, e7⟩ := Prod.mk.inj e5
       rw [← e7] at h2
       rw [← e6] at e
       exact .sessions m r' cs' f e h2
    ·have : PySn37.shape p = none := by unfold PySn37.shape; rw [if_neg p0, if_neg p1, if_neg p2]
     rw [this] at h1
     cases h1
theorem bytes_nats {l : List Int} (h : NeutralIO.bytes l = true) : ∃ b : Bytes, l = b.map (fun n : Nat => (n : Int)) ∧ Sn37Neutral.nats l = b ∧ ∀ c ∈ b, c < 256 := by
 refine ⟨Sn37Neutral.nats l, ?_, rfl, ?_⟩
 ·unfold Sn37Neutral.nats
  rw [List.map_map]
  have : l.map id = l.map ((fun n : Nat => (n : Int)) ∘ Int.toNat) := List.map_congr_left fun z hz => by
   have := List.all_eq_true.mp h z hz
   simp at this
   show z = ((z.toNat : Nat) : Int)
   omega
  rw [← this, List.map_id]
 ·intro c hc
  obtain ⟨z, hz, e⟩ := List.mem_map.mp hc
  have := List.all_eq_true.mp h z hz
  simp at this
  omega
theorem decimal_len {n : Nat} (h : n < 1000) : (decimal n).length ≤ 3 := by
 unfold decimal
 rw [List.length_map]
 have : ∀ k, k < 1000 → (Nat.toDigits 10 k).length ≤ 3 := by decide +kernel
 exact this n h
theorem hex_length (b : Bytes) : (hex b).length = 2 * b.length := by
 unfold hex
 induction b with
 | nil => rfl
 | cons c r ih =>
  rw [List.flatMap_cons, List.length_append, ih, List.length_cons]
  simp
  omega
def lineOf (x : Session) : Bytes := decimal x.client ++ (32 :: (hex x.user ++ (32 :: (hex x.name ++ [10]))))
theorem listed_eq (s : Server) : listed s = s.sessions.flatMap lineOf := rfl
theorem lineOf_length {x : Session} (h : x.client < 256) : (lineOf x).length ≤ 2 * x.user.length + 2 * x.name.length + 6 := by
 have := decimal_len (show x.client < 1000 by omega)
 unfold lineOf
 simp only [List.length_append, List.length_cons, hex_length, List.length_nil]
 omega
end Dw
namespace L2
open PySem PySem.Spec PyProof.Rows
abbrev Key := Sum Int Str
def keyIs : Key → Value → Bool
 | .inl k, v => Value.isInt k v
 | .inr x, v => Value.isStrOf x v
def keyH (w : World) : Key → Int
 | .inl k => hashInt k
 | .inr x => hashStr w x
theorem keyIs_shape : ∀ {k : Key} {v : Value}, keyIs k v = true → (∃ i t, k = Sum.inl i ∧ v = Value.int i t) ∨ (∃ x t, k = Sum.inr x ∧ v = Value.str x t)
 | .inl i, v, h => by
  obtain ⟨t, e⟩ := Value.isInt_shape (k := i) (v := v) h
  exact .inl ⟨i, t, rfl, e⟩
 | .inr x, v, h => by
  obtain ⟨t, e⟩ := Value.isStrOf_shape (x := x) (v := v) h
  exact .inr ⟨x, t, rfl, e⟩
theorem keyIs_int (i : Int) (t : Tok) : keyIs (.inl i) (.int i t) = true := by simp [keyIs, Value.isInt]
theorem keyIs_str (x : Str) (t : Tok) : keyIs (.inr x) (.str x t) = true := by simp [keyIs, Value.isStrOf]
theorem key_ll (a b : Int) : decide ((Sum.inl a : Key) = Sum.inl b) = (a == b) := by
 by_cases e : a = b
 ·subst e; simp
 ·have h : ¬ (Sum.inl a : Key) = Sum.inl b := fun q => e (Sum.inl.inj q)
  rw [decide_eq_false h]
  exact (beq_eq_false_iff_ne.mpr e).symm
theorem key_rr (a b : Str) : decide ((Sum.inr a : Key) = Sum.inr b) = decide (a = b) := by
 by_cases e : a = b
 ·subst e; simp
 ·have h : ¬ (Sum.inr a : Key) = Sum.inr b := fun q => e (Sum.inr.inj q)
  rw [decide_eq_false h, decide_eq_false e]
theorem key_lr (a : Int) (b : Str) : decide ((Sum.inl a : Key) = Sum.inr b) = false := decide_eq_false (fun q => nomatch q)
theorem key_rl (a : Str) (b : Int) : decide ((Sum.inr a : Key) = Sum.inl b) = false := decide_eq_false (fun q => nomatch q)
def mixKind (prog : Program) (w : World) : PySem.KeyKind prog w Key where
 is := keyIs
 hash := keyH w
 inj := fun v a b ha hb => by
  rcases keyIs_shape ha with ⟨i, t, rfl, rfl⟩ | ⟨x, t, rfl, rfl⟩
  ·rcases keyIs_shape hb with ⟨j, u, rfl, e⟩ | ⟨y, u, rfl, e⟩
   ·injection e with e1 _; rw [e1]
   ·exact nomatch e
  ·rcases keyIs_shape hb with ⟨j, u, rfl, e⟩ | ⟨y, u, rfl, e⟩
   ·exact nomatch e
   ·injection e with e1 _; rw [e1]
 byValue := fun k v h => by
  rcases keyIs_shape h with ⟨i, t, rfl, rfl⟩ | ⟨x, t, rfl, rfl⟩ <;> rfl
 pyHash := fun hv h => by
  rcases keyIs_shape hv with ⟨i, t, rfl, rfl⟩ | ⟨x, t, rfl, rfl⟩
  ·exact wpAny_pyHash_int h
  ·exact wpAny_pyHash_str h
 eqBool := fun hu hv h => by
  rcases keyIs_shape hu with ⟨i, t, rfl, rfl⟩ | ⟨x, t, rfl, rfl⟩
  ·rcases keyIs_shape hv with ⟨j, u, rfl, rfl⟩ | ⟨y, u, rfl, rfl⟩
   ·rw [key_ll] at h; exact wpAny_eqBool_int h
   ·rw [key_lr] at h; exact SeqAt.EqAt.int_str i t y u _ _ _ _ h
  ·rcases keyIs_shape hv with ⟨j, u, rfl, rfl⟩ | ⟨y, u, rfl, rfl⟩
   ·rw [key_rl] at h; exact SeqAt.EqAt.str_int x t j u _ _ _ _ h
   ·rw [key_rr] at h; exact wpAny_eqBool_str h
 «strs» := fun k x t v h => by
  rcases keyIs_shape h with ⟨i, u, rfl, e⟩ | ⟨y, u, rfl, e⟩
  ·exact nomatch e
  ·injection e with e1 _
   subst e1
   cases v <;> rfl
theorem mixKind_int (prog : Program) (w : World) (i : Int) (t : Tok) : (mixKind prog w).is (.inl i) (.int i t) = true := keyIs_int i t
theorem mixKind_str (prog : Program) (w : World) (x : Str) (t : Tok) : (mixKind prog w).is (.inr x) (.str x t) = true := keyIs_str x t
end L2
namespace L2
open PySem PySem.Spec PyProof.Rows
inductive V where
 | non | bl (b : Bool) | int (i : Int) | str (x : Str) | byt (b : Array UInt8) | flt (b : UInt64) | ref (a : Addr) | ty (n : String)
 deriving DecidableEq
def RelV : V → Value → Prop
 | .non, u => u = Value.none
 | .bl b, u => u = Value.bool b
 | .int i, u => ∃ t, u = Value.int i t
 | .str x, u => ∃ t, u = Value.str x t
 | .byt b, u => ∃ t, u = Value.bytes b t
 | .flt b, u => ∃ t, u = Value.float b t
 | .ref a, u => u = Value.ref a
 | .ty n, u => u = Value.type n
abbrev Vals : List V → List Value → Prop := Paired RelV
theorem Vals.length {xs : List V} {us : List Value} (r : Vals xs us) : xs.length = us.length := Paired.length r
theorem Vals.get : ∀ {xs : List V} {us : List Value} {i : Nat} {x : V}, Vals xs us → xs[i]? = some x → ∃ u, us[i]? = some u ∧ RelV x u
 | _, _, _, _, .nil, e => by simp at e
 | _, _, 0, _, .cons r _, e => by simp at e; subst e; exact ⟨_, rfl, r⟩
 | _, _, i + 1, x, .cons _ t, e => by
  obtain ⟨u, h1, h2⟩ := Vals.get (i := i) (x := x) t (by simpa using e)
  exact ⟨u, by simpa using h1, h2⟩
theorem Vals.append : ∀ {xs ys : List V} {us ws : List Value}, Vals xs us → Vals ys ws → Vals (xs ++ ys) (us ++ ws)
 | _, _, _, _, .nil, s => s
 | _, _, _, _, .cons r t, s => .cons r (Vals.append t s)
theorem Vals.take : ∀ {xs : List V} {us : List Value} (n : Nat), Vals xs us → Vals (xs.take n) (us.take n)
 | _, _, 0, _ => .nil
 | _, _, _ + 1, .nil => .nil
 | _, _, n + 1, .cons r t => .cons r (Vals.take n t)
theorem Vals.drop : ∀ {xs : List V} {us : List Value} (n : Nat), Vals xs us → Vals (xs.drop n) (us.drop n)
 | _, _, 0, r => r
 | _, _, _ + 1, .nil => .nil
 | _, _, n + 1, .cons _ t => Vals.drop n t
def RelO : Option V → Option Value → Prop
 | some v, some u => RelV v u
 | none, none => True
 | _, _ => False
def KV {κ : Type} : List (κ × V) → List (κ × Value) → Prop := Paired fun (p : κ × V) (q : κ × Value) => p.1 = q.1 ∧ RelV p.2 q.2
def kV : Key → V
 | .inl i => .int i
 | .inr x => .str x
inductive HO where
 | lst (xs : List V)
 | tup (xs : List V)
 | dK (kvs : List (Key × V)) | dT (kvs : List (List Key × V))
 | set (S : Int → Bool) (n : Nat)
 | ins (C dx : Addr) (fs : List (Str × V))
 | own (x : Addr)
 | xd (fs : List (Str × V))
 | met (f x : Addr)
 | rng (lo hi : Int)
 | frz (o : Obj) (u : HO)
 | tbl (ps : Array Value)
 | ext (φ : Heap → Prop)
abbrev Hp := Addr → Option HO
def upd (H : Hp) (a : Addr) (o : HO) : Hp := fun b => if b = a then some o else H b
theorem upd_same {H : Hp} {a : Addr} {o : HO} : upd H a o a = some o := by unfold upd; rw [if_pos rfl]
theorem upd_ne {H : Hp} {a b : Addr} {o : HO} (h : b ≠ a) : upd H a o b = H b := by unfold upd; rw [if_neg h]
theorem upd_upd {H : Hp} {a : Addr} {o u : HO} : upd (upd H a o) a u = upd H a u := by
 funext b; unfold upd; split <;> rfl
theorem ne_of {H : Hp} {a b : Addr} {o u : HO} (h : H a = some o) (h' : H b = some u) (d : o ≠ u) : a ≠ b := by
 intro e; subst e; rw [h] at h'; exact d (Option.some.inj h')
theorem ne_of_none {H : Hp} {a b : Addr} {o : HO} (h : H a = some o) (h' : H b = none) : a ≠ b := by
 intro e; subst e; rw [h] at h'; cases h'
section
variable (P : Program) (w : World)
def ObjOk (H : Hp) (h : Heap) (a : Addr) : HO → Prop
 | .lst xs => xs.length ≤ sizeLine ∧ ∃ (its : List Value) (n : Nat), Vals xs its ∧ h.get? a = some { cls := .type "list", data := .seq its.toArray n }
 | .tup xs => xs.length ≤ sizeLine ∧ ∃ its : List Value, Vals xs its ∧ IsTup h a its.toArray
 | .dK kvs => kvs.length ≤ sizeLine ∧ (a == sysModules) = false ∧ ∃ vs, KV kvs vs ∧ h.DictOf (mixKind P w) a vs
 | .dT kvs => kvs.length ≤ sizeLine ∧ (a == sysModules) = false ∧ ∃ xs : List (List Key × Addr × Value),
   Paired (fun (p : List Key × V) (q : List Key × Addr × Value) => p.1 = q.1 ∧ H q.2.1 = some (.tup (p.1.map kV)) ∧ RelV p.2 q.2.2) kvs xs ∧
   ∃ o es ep, h.get? a = some o ∧ o.ExactDict ∧ o.data = .dict es ep ∧ es.toList = xs.map (entryOfKey (tupleKind (mixKind P w))) ∧ (xs.map (·.1)).Nodup
 | .set S n => h.SetOf (intKind P w) a S n
 | .ins C dx fs => H dx = some (.own a) ∧ fs.length ≤ 1000 ∧ dx ≠ a ∧ h.get? a = some (PySem.W.instObj C dx) ∧
   ∃ mA, h.Ns1 dx mA ∧ (∀ f, RelO (fs.lookup f) (mA f)) ∧ PySem.Within mA (fs.map (·.1))
 | .own _ => ∃ o, h.get? a = some o
 | .xd fs => ∃ mA, h.Ns1 a mA ∧ ∀ f, RelO (fs.lookup f) (mA f)
 | .rng lo hi => ∃ t u v, h.get? a = some { cls := .type "range", data := .fields #[.int lo t, .int hi u, .int 1 v] }
 | .frz o u => h.get? a = some o ∧ ObjOk H h a u
 | .tbl ps => h.get? a = some { cls := .none, data := .fields ps }
 | .met f x => h.get? a = some (PySem.W.methodObj (.ref f) (.ref x))
 | .ext φ => φ h ∧ (∃ o, h.get? a = some o) ∧ ∀ h1 h2 : Heap, φ h1 → (∀ o, h1.get? a = some o → h2.get? a = some o) → φ h2
def HOk (H : Hp) (h : Heap) : Prop := ∀ a o, H a = some o → ObjOk P w H h a o
end
section
variable {P : Program} {w : World} {H H' : Hp} {h h' : Heap} {a : Addr} {o : HO}
theorem ObjOk.lt (x : ObjOk P w H h a o) : a < h.objs.size := by
 cases o with
 | lst xs => obtain ⟨_, _, _, _, e⟩ := x; exact Heap.lt_size e
 | tup xs => obtain ⟨_, _, _, p⟩ := x; exact p.lt
 | dK kvs => obtain ⟨_, _, _, _, o, _, _, e, _⟩ := x; exact Heap.lt_size e
 | dT kvs => obtain ⟨_, _, _, _, o, _, _, e, _⟩ := x; exact Heap.lt_size e
 | set S n => obtain ⟨o, _, _, _, e, _⟩ := x; exact Heap.lt_size e
 | ins C dx fs => obtain ⟨_, _, _, e, _⟩ := x; exact Heap.lt_size e
 | own y => obtain ⟨_, e⟩ := x; exact Heap.lt_size e
 | xd fs => obtain ⟨_, ⟨_, _, _, e, _⟩, _⟩ := x; exact Heap.lt_size e
 | rng lo hi => obtain ⟨_, _, _, e⟩ := x; exact Heap.lt_size e
 | frz ob u => obtain ⟨e, _⟩ := x; exact Heap.lt_size e
 | tbl ps => exact Heap.lt_size (show h.get? a = some _ from x)
 | met f y => exact Heap.lt_size (show h.get? a = some _ from x)
 | ext φ => obtain ⟨_, ⟨_, e⟩, _⟩ := x; exact Heap.lt_size e
theorem Paired.mapP {α β : Type} {F G : α → β → Prop} : ∀ {l₁ : List α} {l₂ : List β}, Paired F l₁ l₂ → (∀ a b, F a b → G a b) → Paired G l₁ l₂
 | _, _, .nil, _ => .nil
 | _, _, .cons r t, f => .cons (f _ _ r) (Paired.mapP t f)
theorem ObjOk.stay (x : ObjOk P w H h a o) (k : ∀ b u, (b = a ∨ H b = some (.own a)) → h.get? b = some u → h'.get? b = some u)
  (ho : ∀ b, H b = some (.own a) → H' b = some (.own a)) (ht : ∀ b xs, H b = some (.tup xs) → H' b = some (.tup xs)) : ObjOk P w H' h' a o := by
 induction o with
 | lst xs => obtain ⟨z, its, n, r, e⟩ := x; exact ⟨z, its, n, r, k _ _ (.inl rfl) e⟩
 | tup xs => obtain ⟨z, its, r, ob, e, c⟩ := x; exact ⟨z, its, r, ob, k _ _ (.inl rfl) e, c⟩
 | dK kvs => obtain ⟨z, y, vs, r, ob, es, ep, e, c⟩ := x; exact ⟨z, y, vs, r, ob, es, ep, k _ _ (.inl rfl) e, c⟩
 | dT kvs =>
  obtain ⟨z, y, xs, r, ob, es, ep, e, c⟩ := x
  exact ⟨z, y, xs, Paired.mapP r fun p q z => ⟨z.1, ht _ _ z.2.1, z.2.2⟩, ob, es, ep, k _ _ (.inl rfl) e, c⟩
 | set S n => obtain ⟨ob, es, ep, t, e, c⟩ := x; exact ⟨ob, es, ep, t, k _ _ (.inl rfl) e, c⟩
 | ins C dx fs =>
  obtain ⟨d, z, ne, e, mA, ⟨od, es, ep, e2, c⟩, r⟩ := x
  exact ⟨ho _ d, z, ne, k _ _ (.inl rfl) e, mA, ⟨od, es, ep, k _ _ (.inr d) e2, c⟩, r⟩
 | own y => obtain ⟨ob, e⟩ := x; exact ⟨ob, k _ _ (.inl rfl) e⟩
 | xd fs => obtain ⟨mA, ⟨od, es, ep, e, c⟩, r⟩ := x; exact ⟨mA, ⟨od, es, ep, k _ _ (.inl rfl) e, c⟩, r⟩
 | rng lo hi => obtain ⟨t, u, v, e⟩ := x; exact ⟨t, u, v, k _ _ (.inl rfl) e⟩
 | frz ob u ih => obtain ⟨e, q⟩ := x; exact ⟨k _ _ (.inl rfl) e, ih q⟩
 | tbl ps =>
  have e : h.get? a = some { cls := .none, data := .fields ps } := x
  show h'.get? a = some { cls := .none, data := .fields ps }
  exact k a _ (.inl rfl) e
 | met f y =>
  have e : h.get? a = some (PySem.W.methodObj (.ref f) (.ref y)) := x
  show h'.get? a = some (PySem.W.methodObj (.ref f) (.ref y))
  exact k a _ (.inl rfl) e
 | ext φ => obtain ⟨p, ⟨o, e⟩, st⟩ := x; exact ⟨st _ _ p fun o q => k _ _ (.inl rfl) q, ⟨o, k _ _ (.inl rfl) e⟩, st⟩
theorem HOk.lt (x : HOk P w H h) (e : H a = some o) : a < h.objs.size := (x a o e).lt
theorem HOk.fresh (x : HOk P w H h) (e : h.objs.size ≤ a) : H a = none := by
 cases q : H a with
 | none => rfl
 | some u => exact absurd (Nat.lt_of_lt_of_le (x.lt q) e) (Nat.lt_irrefl _)
theorem HOk.kept (x : HOk P w H h) (k : ∀ b u, h.get? b = some u → h'.get? b = some u) : HOk P w H h' := fun a o e =>
 (x a o e).stay (fun b u _ q => k b u q) (fun _ q => q) fun _ _ q => q
theorem HOk.laid (x : HOk P w H h) (k : ∀ b u, h.get? b = some u → h'.get? b = some u) (hp : h.objs.size ≤ a) (new : ObjOk P w (upd H a o) h' a o) : HOk P w (upd H a o) h' := fun b u e => by
 have hn := x.fresh hp
 by_cases hb : b = a
 ·subst hb; rw [upd_same] at e; cases e; exact new
 ·rw [upd_ne hb] at e
  exact (x b u e).stay (fun c v _ q => k c v q) (fun c q => by rw [upd_ne (ne_of_none q hn)]; exact q) fun c xs q => by rw [upd_ne (ne_of_none q hn)]; exact q
end
def Rd (H : Hp) (a : Addr) (u : HO) : Prop := H a = some u ∨ ∃ o, H a = some (.frz o u)
theorem Rd.ok {P : Program} {w : World} {H : Hp} {h : Heap} {a : Addr} {u : HO} (r : Rd H a u) (x : HOk P w H h) : ObjOk P w H h a u := by
 rcases r with r | ⟨o, r⟩
 ·exact x a u r
 ·obtain ⟨_, q⟩ := x a _ r
  exact q
def Mut : Option HO → Prop
 | some (.lst _) => True
 | some (.dK _) => True
 | some (.dT _) => True
 | some (.set _ _) => True
 | some (.ins _ _ _) => True
 | some (.ext _) => True
 | _ => False
section
variable {P : Program} {w : World} {H : Hp} {h h' : Heap} {x e : Addr} {o' : HO}
theorem HOk.write (ok : HOk P w H h) (mu : Mut (H x)) (he : e = x ∨ H e = some (.own x)) (k : ∀ b u, b ≠ e → h.get? b = some u → h'.get? b = some u) (heo : ∃ u, h'.get? e = some u)
  (new : ObjOk P w (upd H x o') h' x o') : HOk P w (upd H x o') h' := fun b u q => by
 have nown : ∀ c y, H c = some (.own y) → c ≠ x := fun c y r z => by subst z; rw [r] at mu; exact mu
 have ntup : ∀ c xs, H c = some (.tup xs) → c ≠ x := fun c xs r z => by subst z; rw [r] at mu; exact mu
 by_cases hb : b = x
 ·subst hb; rw [upd_same] at q; cases q; exact new
 ·rw [upd_ne hb] at q
  by_cases hbe : b = e
  ·have q' : H b = some (.own x) := by
    rcases he with z | z
    ·exact absurd (hbe.trans z) hb
    ·rw [hbe]; exact z
   rw [q] at q'; cases q'
   obtain ⟨v, hv⟩ := heo
   exact ⟨v, by rw [hbe]; exact hv⟩
  ·refine (ok b u q).stay (fun c v hc r => k c v ?_ r) (fun c r => by rw [upd_ne (nown c b r)]; exact r) fun c xs r => by rw [upd_ne (ntup c xs r)]; exact r
   rcases hc with rfl | hc
   ·exact hbe
   ·rintro rfl
    rcases he with z | z
    ·exact nown c b hc z
    ·rw [hc] at z; cases z; exact hb rfl
end
structure Un (fs ex : List Addr) (H H' : Hp) (h h' : Heap) : Prop where
 keep : ∀ b o, h.get? b = some o → H b = none → b ∉ fs → b ∉ ex → h'.get? b = some o
 slot : ∀ b o, h.get? b = some o → H b = none → b ∈ fs → b ∉ ex → ∃ sl, h'.get? b = some { o with slots := sl }
 free : ∀ b o, h.get? b = some o → H b = none → b ∉ ex → H' b = none
 there : ∀ b o, h.get? b = some o → b ∉ ex → ∃ o', h'.get? b = some o'
 tups : ∀ b xs, H b = some (.tup xs) → H' b = some (.tup xs)
 frzs : ∀ b o u, H b = some (.frz o u) → H' b = some (.frz o u)
 tbls : ∀ b ps, H b = some (.tbl ps) → ∃ more, H' b = some (.tbl (ps ++ more))
section
variable {fs fs' ex ex' : List Addr} {H H1 H2 : Hp} {h h1 h2 h' : Heap} {a x e : Addr} {o : HO}
theorem Un.any (u : Un fs ex H H1 h h1) {b : Addr} {ob : Obj} (q : h.get? b = some ob) (n : H b = none) (hx : b ∉ ex) : ∃ sl, h1.get? b = some { ob with slots := sl } := by
 by_cases hb : b ∈ fs
 ·exact u.slot b ob q n hb hx
 ·exact ⟨ob.slots, u.keep b ob q n hb hx⟩
theorem Un.kept (k : ∀ b u, h.get? b = some u → h'.get? b = some u) : Un fs ex H H h h' :=
 ⟨fun b ob q _ _ _ => k b ob q, fun b ob q _ _ _ => ⟨ob.slots, k b ob q⟩, fun _ _ _ n _ => n, fun b ob q _ => ⟨ob, k b ob q⟩, fun _ _ q => q, fun _ _ _ q => q, fun _ ps q => ⟨#[], by rw [q]; simp⟩⟩
theorem Un.refl : Un fs ex H H h h := Un.kept fun _ _ q => q
theorem Un.laid (k : ∀ b u, h.get? b = some u → h'.get? b = some u) (hp : h.objs.size ≤ a) (hn : H a = none) : Un fs ex H (upd H a o) h h' where
 keep := fun b u q _ _ _ => k b u q
 slot := fun b u q _ _ _ => ⟨u.slots, k b u q⟩
 free := fun b u q n _ => by rw [upd_ne (Nat.ne_of_lt (Nat.lt_of_lt_of_le (Heap.lt_size q) hp))]; exact n
 there := fun b u q _ => ⟨u, k b u q⟩
 tups := fun b xs q => by rw [upd_ne (ne_of_none q hn)]; exact q
 frzs := fun b u xs q => by rw [upd_ne (ne_of_none q hn)]; exact q
 tbls := fun b ps q => ⟨#[], by rw [upd_ne (ne_of_none q hn), q]; simp⟩
theorem Un.write (mu : Mut (H x)) (he : e = x ∨ H e = some (.own x)) (k : ∀ b u, b ≠ e → h.get? b = some u → h'.get? b = some u) (heo : ∃ u, h'.get? e = some u) : Un fs ex H (upd H x o) h h' := by
 have hx : ∀ b, H b = none → b ≠ x := fun b n z => by subst z; rw [n] at mu; exact mu
 have hb : ∀ b, H b = none → b ≠ e := fun b n z => by
  subst z
  rcases he with r | r
  ·exact hx b n r
  ·rw [n] at r; cases r
 have hm : ∀ b u, H b = some u → ¬ Mut (some u) → b ≠ x := fun b u q nm z => by subst z; rw [q] at mu; exact nm mu
 refine ⟨fun b u q n _ _ => k b u (hb b n) q, fun b u q n _ _ => ⟨u.slots, k b u (hb b n) q⟩, fun b u q n _ => by rw [upd_ne (hx b n)]; exact n, fun b u q _ => ?_,
  fun b xs q => by rw [upd_ne (hm b _ q fun z => z)]; exact q, fun b u xs q => by rw [upd_ne (hm b _ q fun z => z)]; exact q, fun b ps q => ⟨#[], by rw [upd_ne (hm b _ q fun z => z), q]; simp⟩⟩
 by_cases hbe : b = e
 ·subst hbe; exact heo
 ·exact ⟨u, k b u hbe q⟩
end
def trk (h : Heap) (H : Hp) : List Addr := (List.range h.objs.size).filter fun a => (H a).isSome
def hidT (h : Heap) (H : Hp) : Heap := PySem.W.hideAll h (trk h H)
theorem hidT_size (h : Heap) (H : Hp) : (hidT h H).objs.size = h.objs.size := PySem.W.hideAll_size _ _
theorem hidT_get {h : Heap} {H : Hp} {b : Addr} {o : Obj} (e : h.get? b = some o) (n : H b = none) : (hidT h H).get? b = some o :=
 PySem.W.hideAll_get _ e fun hm => by
  have q : (H b).isSome = true := (List.mem_filter.mp hm).2
  rw [n] at q; simp at q
theorem of_hidT {h : Heap} {H : Hp} {b : Addr} {o : Obj} (e : (hidT h H).get? b = some o) : h.get? b = some o ∧ H b = none := by
 have e' : h.get? b = some o := PySem.W.of_hideAll (trk h H) e
 refine ⟨e', ?_⟩
 cases q : H b with
 | none => rfl
 | some x =>
  have hm : b ∈ trk h H := List.mem_filter.mpr ⟨List.mem_range.mpr (Heap.lt_size e'), by simp [q]⟩
  have z : (hidT h H).get? b = none := PySem.W.hideAll_none (trk h H) hm
  rw [z] at e; cases e
end L2
namespace L2
open PySem PySem.Spec PyProof.Rows
structure Mod (K : PySem.W.Frag) (mg : Str → Option Value) (base : Heap) : Prop where
 kin : K.In base
 glob : base.Ns mainGlobals mg
 blt : ∃ mb, base.Ns builtinsNs mb ∧ ∀ x : Str, x ≠ "__name__" → mb x = bootBuiltins x
 nolimit : base.NoLimit
structure Cx where
 prog : Program
 w : World
 K : PySem.W.Frag
 mg : Str → Option Value
 base : Heap
 A : Around
 N : List Str
 s_0 : Shared
 H_0 : Hp
 env : Env
 outer : List Env
 stack : List Env
 ex : List Addr
 fn : Str → Bool
 calm : Bool
 pn : List (Addr × Obj)
 xe : Value → Shared → Prop
def frs (l : List Env) : List Addr := l.filterMap (·.frame)
abbrev Cx.fs (X : Cx) : List Addr := frs X.outer
def Vis (sc : Scope) (x : Str) : Prop := sc.names.lookup x = some .local ∨ sc.names.lookup x = some .cell ∨ sc.names.lookup x = some .free
def Loc (sc : Scope) (x : Str) : Prop := sc.names.lookup x = some .local ∨ sc.names.lookup x = some .cell
def Look (env : Env) (h : Heap) (m : Str → Option Value) (x : Str) (u : Value) : Prop :=
 (env.kindOf x = some .local ∧ m x = some u) ∨ ((env.kindOf x = some .cell ∨ env.kindOf x = some .free) ∧ ∃ c, env.cells.lookup x = some c ∧ h.IsCell c (some u))
structure Cx.Ok (X : Cx) : Prop where
 mod : Mod X.K X.mg X.base
 kind : X.env.scope.kind = .function
 glob : X.env.globals = mainGlobals
 blt : X.env.builtins = builtinsNs
 above : X.s_0.heap.objs.size ≤ X.env.locals
 inj : ∀ x y c, X.env.cells.lookup x = some c → X.env.cells.lookup y = some c → x = y
 has : ∀ x, (X.env.kindOf x = some .cell ∨ X.env.kindOf x = some .free) → ∃ c, X.env.cells.lookup x = some c
 cab : ∀ x c, X.fn x = true → X.env.cells.lookup x = some c → X.s_0.heap.objs.size ≤ c
 hd : X.calm = true → X.A.handled = none
 frames : X.A.frames = some X.stack
 stk : X.stack = X.outer ∨ (X.stack = X.env :: X.outer ∧ X.env.frame = some X.env.locals)
 exf : ∀ b ∈ X.ex, b ≠ X.env.locals ∧ ∀ x c, X.env.cells.lookup x = some c → c ≠ b
 bs : ∀ b o, X.base.get? b = some o → X.s_0.heap.get? b = some o ∧ X.H_0 b = none
 bsz : X.base.objs.size ≤ X.s_0.heap.objs.size
 noex : ∀ b o, X.base.get? b = some o → b ∉ X.ex
 exfs : ∀ b ∈ X.ex, b ∉ X.fs
 funs : X.s_0.heap.FunFrames X.base X.outer
 frf : ∀ b ∈ X.fs, X.H_0 b = none
structure Inv (X : Cx) (pins : List (Addr × Obj)) (σ : List (Option V)) (H : Hp) (s : Shared) : Prop where
 ok : X.Ok
 os : s.os = X.s_0.os
 bare : AllBare s.gens
 base : Un X.fs X.ex X.H_0 H X.s_0.heap s.heap
 loc : ∃ m, s.heap.Ns X.env.locals m ∧ ∀ (i : Nat) (x : Str) (v : V), X.N[i]? = some x → σ[i]? = some (some v) → Vis X.env.scope x → ∃ u, RelV v u ∧ Look X.env s.heap m x u
 cell : ∀ x c, X.env.cells.lookup x = some c → ∃ v, s.heap.IsCell c v
 free : H X.env.locals = none
 freeC : ∀ x c, X.env.cells.lookup x = some c → H c = none
 pin : ∀ p ∈ X.pn ++ pins, s.heap.get? p.1 = some p.2 ∧ H p.1 = none ∧ p.1 ≠ X.env.locals ∧ p.1 ∉ X.fs ∧ ∀ v, p.2.data ≠ .cell v
 hok : HOk X.prog X.w H s.heap
 len : σ.length = X.N.length
section
variable {X : Cx} {pins : List (Addr × Obj)} {σ : List (Option V)} {H H' : Hp} {s : Shared} {h' : Heap}
theorem Cx.Ok.nofr (ok : X.Ok) {b : Addr} {o : Obj} (e : X.base.get? b = some o) : b ∉ X.fs := fun hb => by
 have := (ok.funs.mem hb).1
 rw [e] at this; cases this
theorem Inv.bs (I : Inv X pins σ H s) : ∀ b o, X.base.get? b = some o → s.heap.get? b = some o ∧ H b = none := fun b o e =>
 ⟨I.base.keep b o (I.ok.bs b o e).1 (I.ok.bs b o e).2 (I.ok.nofr e) (I.ok.noex b o e), I.base.free b o (I.ok.bs b o e).1 (I.ok.bs b o e).2 (I.ok.noex b o e)⟩
theorem Inv.bk (I : Inv X pins σ H s) : ∀ b o, X.base.get? b = some o → s.heap.get? b = some o := fun b o e => (I.bs b o e).1
theorem Inv.mod (I : Inv X pins σ H s) : Mod X.K X.mg X.base := I.ok.mod
theorem Inv.kIn (I : Inv X pins σ H s) : X.K.In s.heap := I.ok.mod.kin.keeps I.bk
theorem Inv.nolimit (I : Inv X pins σ H s) : s.heap.NoLimit := I.ok.mod.nolimit.keeps I.bk
theorem Inv.fr (I : Inv X pins σ H s) : ∃ m, Fr X.base X.env.locals s.heap m :=
 let ⟨m, hn, _⟩ := I.loc
 ⟨m, hn, I.bk, Nat.le_trans I.ok.bsz I.ok.above⟩
theorem Inv.lt (I : Inv X pins σ H s) : X.env.locals < s.heap.objs.size := let ⟨_, hn, _⟩ := I.loc; hn.lt
theorem Inv.sz (I : Inv X pins σ H s) : X.s_0.heap.objs.size ≤ s.heap.objs.size := Nat.le_trans I.ok.above (Nat.le_of_lt I.lt)
theorem Inv.nofs (I : Inv X pins σ H s) {a : Addr} (h : s.heap.objs.size ≤ a) : a ∉ X.fs := fun hb => by
 obtain ⟨_, o, ho, _⟩ := I.ok.funs.mem hb
 exact absurd (Nat.lt_of_lt_of_le (Heap.lt_size ho) (Nat.le_trans I.sz h)) (Nat.lt_irrefl _)
theorem Inv.cne (I : Inv X pins σ H s) : ∀ x c, X.env.cells.lookup x = some c → c ≠ X.env.locals := fun x c e z => by
 obtain ⟨v, o, ho, hd⟩ := I.cell x c e
 obtain ⟨m, ⟨o', es, ep, ho', hd', _⟩, _⟩ := I.loc
 rw [z, ho'] at ho; cases ho; rw [hd'] at hd; cases hd
theorem Inv.funs (I : Inv X pins σ H s) : s.heap.FunFrames X.base X.outer := by
 have all : ∀ (l : List Env), (∀ b ∈ frs l, b ∈ X.fs) → X.s_0.heap.FunFrames X.base l → s.heap.FunFrames X.base l := by
  intro l
  induction l with
  | nil => intro _ _; trivial
  | cons env r ih =>
   intro hs hl
   obtain ⟨hk, ⟨L, o, hf, hn, ho, hd⟩, hr⟩ := hl
   have hL : L ∈ X.fs := hs L (by unfold frs; rw [List.filterMap_cons, hf]; exact List.mem_cons_self)
   obtain ⟨sl, e⟩ := I.base.slot L o ho (I.ok.frf L hL) hL fun z => I.ok.exfs L z hL
   exact ⟨hk, ⟨L, _, hf, hn, e, hd⟩, ih (fun b hb => hs b (by unfold frs; rw [List.filterMap_cons, hf]; exact List.mem_cons_of_mem _ hb)) hr⟩
 exact all X.outer (fun _ hb => hb) I.ok.funs
theorem Inv.stack (I : Inv X pins σ H s) : s.heap.FunFrames X.base X.stack := by
 rcases I.ok.stk with e | ⟨e, hf⟩
 ·rw [e]; exact I.funs
 ·rw [e]
  obtain ⟨m, hn, _⟩ := I.loc
  refine .cons (by rw [I.ok.kind]; decide) hf hn ?_ I.funs
  exact Heap.get?_none_of_le (Nat.le_trans I.ok.bsz I.ok.above)
theorem Inv.stkSub (I : Inv X pins σ H s) : ∀ b ∈ frs X.stack, b ∈ X.env.locals :: X.fs := fun b hb => by
 rcases I.ok.stk with e | ⟨e, hf⟩
 ·rw [e] at hb; exact List.mem_cons_of_mem _ hb
 ·rw [e] at hb
  unfold frs at hb
  rw [List.filterMap_cons, hf] at hb
  exact hb
theorem Inv.stkFree (I : Inv X pins σ H s) : ∀ b ∈ frs X.stack, H b = none := fun b hb => by
 rcases List.mem_cons.mp (I.stkSub b hb) with e | hb
 ·rw [e]; exact I.free
 ·obtain ⟨_, o, ho, _⟩ := I.ok.funs.mem hb
  exact I.base.free b o ho (I.ok.frf b hb) fun z => I.ok.exfs b z hb
theorem Inv.step {g' : Array GenState} {t' : Nat} {d' : Drawn} {ch : List Addr} (I : Inv X pins σ H s)
  (hch : ∀ b ∈ ch, (b ∈ X.ex ∨ X.s_0.heap.objs.size ≤ b) ∧ b ≠ X.env.locals ∧ (∀ x c, X.env.cells.lookup x = some c → c ≠ b) ∧ ∀ p ∈ X.pn ++ pins, p.1 ≠ b)
  (keep : ∀ b o, b ≠ X.env.locals → b ∉ X.fs → b ∉ ch → s.heap.get? b = some o → H b = none → h'.get? b = some o)
  (slot : ∀ b o, b ≠ X.env.locals → b ∈ X.fs → b ∉ ch → s.heap.get? b = some o → H b = none → ∃ sl, h'.get? b = some { o with slots := sl }) (free : ∀ b o, b ∉ ch → s.heap.get? b = some o → H b = none → H' b = none)
  (there : ∀ b o, b ∉ ch → s.heap.get? b = some o → ∃ o', h'.get? b = some o')
  (tups : ∀ b xs, H b = some (.tup xs) → H' b = some (.tup xs)) (frzs : ∀ b o u, H b = some (.frz o u) → H' b = some (.frz o u)) (tbls : ∀ b ps, H b = some (.tbl ps) → ∃ more, H' b = some (.tbl (ps ++ more)))
  (ns : ∀ m, s.heap.Ns X.env.locals m → h'.Ns X.env.locals m) (hok : HOk X.prog X.w H' h') (hg : AllBare g') :
  Inv X pins σ H' { s with heap := h', gens := g', drawn := d', toks := t' } := by
 have neL : ∀ b o, X.s_0.heap.get? b = some o → b ≠ X.env.locals := fun b o e => Nat.ne_of_lt (Nat.lt_of_lt_of_le (Heap.lt_size e) I.ok.above)
 have neC : ∀ b o, X.s_0.heap.get? b = some o → b ∉ X.ex → b ∉ ch := fun b o e hx hb => by
  rcases (hch b hb).1 with z | z
  ·exact hx z
  ·exact absurd (Nat.lt_of_lt_of_le (Heap.lt_size e) z) (Nat.lt_irrefl _)
 have cellK : ∀ x c, X.env.cells.lookup x = some c → ∀ v, s.heap.IsCell c v → h'.IsCell c v := fun x c e v ⟨o, ho, hd⟩ => by
  have nch : c ∉ ch := fun z => (hch c z).2.2.1 x c e rfl
  by_cases hc : c ∈ X.fs
  ·obtain ⟨sl, q⟩ := slot c o (I.cne x c e) hc nch ho (I.freeC x c e)
   exact ⟨_, q, hd⟩
  ·exact ⟨o, keep c o (I.cne x c e) hc nch ho (I.freeC x c e), hd⟩
 refine ⟨I.ok, I.os, hg, ⟨fun b o e n hb hx => ?_, fun b o e n hb hx => ?_, fun b o e n hx => ?_, fun b o e hx => ?_, fun b xs e => tups b xs (I.base.tups b xs e), fun b o xs e => frzs b o xs (I.base.frzs b o xs e), fun b ps e => ?_⟩, ?_, fun x c e => ?_, ?_, fun x c e => ?_, fun p hp => ?_, hok, I.len⟩
 ·exact keep b o (neL b o e) hb (neC b o e hx) (I.base.keep b o e n hb hx) (I.base.free b o e n hx)
 ·obtain ⟨sl, e1⟩ := I.base.slot b o e n hb hx
  obtain ⟨sl', e2⟩ := slot b _ (neL b o e) hb (neC b o e hx) e1 (I.base.free b o e n hx)
  exact ⟨sl', e2⟩
 ·obtain ⟨o', e1⟩ := I.base.there b o e hx
  exact free b o' (neC b o e hx) e1 (I.base.free b o e n hx)
 ·obtain ⟨o', e1⟩ := I.base.there b o e hx
  exact there b o' (neC b o e hx) e1
 ·obtain ⟨m1, e1⟩ := I.base.tbls b ps e
  obtain ⟨m2, e2⟩ := tbls b _ e1
  exact ⟨m1 ++ m2, by rw [e2, Array.append_assoc]⟩
 ·obtain ⟨m, hn, hl⟩ := I.loc
  refine ⟨m, ns m hn, fun i x v e1 e2 e3 => ?_⟩
  obtain ⟨u, r, l⟩ := hl i x v e1 e2 e3
  refine ⟨u, r, ?_⟩
  rcases l with l | ⟨k, c, e, z⟩
  ·exact .inl l
  ·exact .inr ⟨k, c, e, cellK x c e _ z⟩
 ·obtain ⟨v, z⟩ := I.cell x c e
  exact ⟨v, cellK x c e v z⟩
 ·obtain ⟨m, ⟨o, _, _, ho, _⟩, _⟩ := I.loc
  exact free _ o (fun z => (hch _ z).2.1 rfl) ho I.free
 ·obtain ⟨v, o, ho, hd⟩ := I.cell x c e
  exact free c o (fun z => (hch c z).2.2.1 x c e rfl) ho (I.freeC x c e)
 ·obtain ⟨e, n, ne, nf, d⟩ := I.pin p hp
  have nch : p.1 ∉ ch := fun z => (hch p.1 z).2.2.2 p hp rfl
  exact ⟨keep p.1 p.2 ne nf nch e n, free p.1 p.2 nch e n, ne, nf, d⟩
theorem Inv.un {t' : Nat} (I : Inv X pins σ H s) (u : Un X.fs [] H H' s.heap h') (hok : HOk X.prog X.w H' h') : Inv X pins σ H' { s with heap := h', toks := t' } := by
 obtain ⟨m, ⟨o, es, ep, ho, r⟩, _⟩ := id I.loc
 obtain ⟨sl, hL⟩ := u.any ho I.free (by simp)
 exact I.step (g' := s.gens) (d' := s.drawn) (ch := []) (fun _ z => nomatch z) (fun b o _ hb _ e n => u.keep b o e n hb (by simp)) (fun b o _ hb _ e n => u.slot b o e n hb (by simp)) (fun b o _ e n => u.free b o e n (by simp)) (fun b o _ e => u.there b o e (by simp)) u.tups u.frzs u.tbls (fun m' hm => by
  obtain ⟨o', es', ep', ho', r'⟩ := hm
  rw [ho] at ho'; cases ho'
  exact ⟨_, es', ep', hL, r'⟩) hok I.bare
theorem Inv.call {g' : Array GenState} {t' : Nat} {d' : Drawn} {ch : List Addr} (I : Inv X pins σ H s) (u : Un (frs X.stack) ch H H' s.heap h') (hok : HOk X.prog X.w H' h') (hg : AllBare g')
  (hch : ∀ b ∈ ch, (b ∈ X.ex ∨ X.s_0.heap.objs.size ≤ b) ∧ b ≠ X.env.locals ∧ (∀ x c, X.env.cells.lookup x = some c → c ≠ b) ∧ ∀ p ∈ X.pn ++ pins, p.1 ≠ b) :
  Inv X pins σ H' { s with heap := h', gens := g', drawn := d', toks := t' } := by
 obtain ⟨m, ⟨o, es, ep, ho, r⟩, _⟩ := id I.loc
 obtain ⟨sl, hL⟩ := u.any ho I.free fun z => (hch _ z).2.1 rfl
 exact I.step (ch := ch) hch (fun b o hL hb hc e n => u.keep b o e n (fun z => (List.mem_cons.mp (I.stkSub b z)).elim hL hb) hc) (fun b o _ _ hc e n => u.any e n hc) (fun b o hc e n => u.free b o e n hc) (fun b o hc e => u.there b o e hc) u.tups u.frzs u.tbls (fun m' hm => by
  obtain ⟨o', es', ep', ho', r'⟩ := hm
  rw [ho] at ho'; cases ho'
  exact ⟨_, es', ep', hL, r'⟩) hok hg
theorem Inv.turned {t' : Nat} {it : Addr} (I : Inv X pins σ H s) (k : ∀ b o, b ≠ it → s.heap.get? b = some o → h'.get? b = some o) (hn : H it = none) (hL : it ≠ X.env.locals)
  (h1 : it ∈ X.ex ∨ X.s_0.heap.objs.size ≤ it) (h2 : ∀ x c, X.env.cells.lookup x = some c → c ≠ it) (h3 : ∀ p ∈ X.pn ++ pins, p.1 ≠ it) : Inv X pins σ H { s with heap := h', toks := t' } := by
 have nit : ∀ b u, H b = some u → b ≠ it := fun b u e z => by rw [z, hn] at e; cases e
 refine I.step (g' := s.gens) (d' := s.drawn) (ch := [it]) (fun b hb => ?_) (fun b o _ _ hc e _ => k b o (fun z => hc (by simp [z])) e) (fun b o _ _ hc e _ => ⟨o.slots, k b o (fun z => hc (by simp [z])) e⟩) (fun _ _ _ _ n => n)
  (fun b o hc e => ⟨o, k b o (fun z => hc (by simp [z])) e⟩) (fun _ _ e => e) (fun _ _ _ e => e) (fun b ps e => ⟨#[], by rw [e]; simp⟩) (fun m hm => ?_) (fun b u e => ?_) I.bare
 ·have e : b = it := by simpa using hb
  subst e
  exact ⟨h1, hL, h2, h3⟩
 ·obtain ⟨o, es, ep, ho, r⟩ := hm
  exact ⟨o, es, ep, k _ o (Ne.symm hL) ho, r⟩
 ·refine (I.hok b u e).stay (fun c v hc q => k c v ?_ q) (fun _ q => q) fun _ _ q => q
  rcases hc with z | z
  ·rw [z]; exact nit b u e
  ·exact nit c _ z
theorem Inv.tok (I : Inv X pins σ H s) (t : Nat) : Inv X pins σ H { s with toks := t } := I.un (h' := s.heap) (t' := t) Un.refl I.hok
theorem Inv.kept {t' : Nat} (I : Inv X pins σ H s) (k : ∀ b u, s.heap.get? b = some u → h'.get? b = some u) : Inv X pins σ H { s with heap := h', toks := t' } := I.un (Un.kept k) (I.hok.kept k)
theorem Inv.laid {a : Addr} {o : HO} {t' : Nat} (I : Inv X pins σ H s) (k : ∀ b u, s.heap.get? b = some u → h'.get? b = some u) (hp : s.heap.objs.size ≤ a) (new : ObjOk X.prog X.w (upd H a o) h' a o) :
  Inv X pins σ (upd H a o) { s with heap := h', toks := t' } := I.un (Un.laid k hp (I.hok.fresh hp)) (I.hok.laid k hp new)
theorem Inv.write {x e : Addr} {o : HO} {t' : Nat} (I : Inv X pins σ H s) (mu : Mut (H x)) (he : e = x ∨ H e = some (.own x)) (k : ∀ b u, b ≠ e → s.heap.get? b = some u → h'.get? b = some u) (heo : ∃ u, h'.get? e = some u)
  (new : ObjOk X.prog X.w (upd H x o) h' x o) : Inv X pins σ (upd H x o) { s with heap := h', toks := t' } := I.un (Un.write mu he k heo) (I.hok.write mu he k heo new)
theorem Inv.weak {σ' : List (Option V)} (I : Inv X pins σ H s) (hl : σ'.length = σ.length) (w : ∀ (i : Nat) v, σ'[i]? = some (some v) → σ[i]? = some (some v)) : Inv X pins σ' H s :=
 ⟨I.ok, I.os, I.bare, I.base, let ⟨m, hn, hl'⟩ := I.loc; ⟨m, hn, fun i x v e1 e2 e3 => hl' i x v e1 (w i v e2) e3⟩, I.cell, I.free, I.freeC, I.pin, I.hok, hl.trans I.len⟩
theorem Inv.pins_of {pins' : List (Addr × Obj)} (I : Inv X pins σ H s) (h : ∀ p ∈ pins', s.heap.get? p.1 = some p.2 ∧ H p.1 = none ∧ p.1 ≠ X.env.locals ∧ p.1 ∉ X.fs ∧ ∀ v, p.2.data ≠ .cell v) : Inv X pins' σ H s :=
 ⟨I.ok, I.os, I.bare, I.base, I.loc, I.cell, I.free, I.freeC, fun p hp => (List.mem_append.mp hp).elim (fun z => I.pin p (List.mem_append_left _ z)) (h p), I.hok, I.len⟩
theorem nodup_ix {N : List Str} (hN : N.Nodup) {i j : Nat} {x : Str} (a : N[i]? = some x) (b : N[j]? = some x) : i = j := by
 obtain ⟨h1, e1⟩ := List.getElem?_eq_some_iff.mp a
 obtain ⟨h2, e2⟩ := List.getElem?_eq_some_iff.mp b
 exact (List.getElem_inj hN).mp (e1.trans e2.symm)
theorem store_ok2 {M : Model} {A : Around} {E : Value → Shared → Prop} {i : Nat} {x : Str} {v : V} {u : Value} {Q : Unit → Shared → Prop} (I : Inv X pins σ H s) (hN : X.N.Nodup) (hi : X.N[i]? = some x) (hx : Loc X.env.scope x) (r : RelV v u)
  (h : ∀ s', Inv X pins (σ.set i (some v)) H s' → (∃ a, Heap.SameBut a s.heap s'.heap ∧ (a = X.env.locals ∨ X.env.cells.lookup x = some a)) → Q () s') (hf : X.fn x = true ∨ X.env.scope.names.lookup x = some .local := by first | exact .inl rfl | exact .inr rfl | assumption) : wpAny M A (storeName X.env x u) Q E s := by
 obtain ⟨m, hn, hl⟩ := id I.loc
 have hcls : (X.env.scope.kind == .class || (X.env.scope.kind == .module && X.env.locals != X.env.globals)) = false := by rw [I.ok.kind]; rfl
 have hiσ : i < σ.length := by rw [I.len]; exact (List.getElem?_eq_some_iff.mp hi).1
 have cne := I.cne
 have tracked : ∀ {a : Addr} {h' : Heap}, (∃ o, s.heap.get? a = some o ∧ H a = none) → Heap.SameBut a s.heap h' → HOk X.prog X.w H h' := fun {a h'} ha hs b ob e => by
  obtain ⟨_, _, hfree⟩ := ha
  refine (I.hok b ob e).stay (fun c w' hc q => (hs.2 c ?_).trans q) (fun _ q => q) fun _ _ q => q
  rintro rfl
  rcases hc with rfl | hc
  ·rw [hfree] at e; cases e
  ·rw [hfree] at hc; cases hc
 rcases hx with hk | hk
 ·refine wpAny_storeName_local hk hn (fun h' hn' hs => ?_) hcls
  obtain ⟨oL, _, _, hoL, _⟩ := id hn
  refine h _ ⟨I.ok, I.os, I.bare, ⟨fun b o e n hb hx => ?_, fun b o e n hb hx => ?_, I.base.free, fun b o e hx => ?_, I.base.tups, I.base.frzs, I.base.tbls⟩, ⟨_, hn', fun j y v' e1 e2 e3 => ?_⟩, fun y c e => ?_, I.free, I.freeC, fun p hp => ?_, tracked ⟨oL, hoL, I.free⟩ hs, by simpa using I.len⟩ ⟨_, hs, .inl rfl⟩
  ·exact (hs.2 b (Nat.ne_of_lt (Nat.lt_of_lt_of_le (Heap.lt_size e) I.ok.above))).trans (I.base.keep b o e n hb hx)
  ·obtain ⟨sl, e1⟩ := I.base.slot b o e n hb hx
   exact ⟨sl, (hs.2 b (Nat.ne_of_lt (Nat.lt_of_lt_of_le (Heap.lt_size e) I.ok.above))).trans e1⟩
  ·obtain ⟨o', e1⟩ := I.base.there b o e hx
   exact ⟨o', (hs.2 b (Nat.ne_of_lt (Nat.lt_of_lt_of_le (Heap.lt_size e) I.ok.above))).trans e1⟩
  ·by_cases hj : j = i
   ·subst hj
    rw [hi] at e1; cases e1
    rw [List.getElem?_set_self hiσ] at e2
    cases e2
    exact ⟨u, r, .inl ⟨hk, by simp⟩⟩
   ·rw [List.getElem?_set_ne (Ne.symm hj)] at e2
    obtain ⟨u', r', q⟩ := hl j y v' e1 e2 e3
    refine ⟨u', r', ?_⟩
    rcases q with ⟨k, e⟩ | ⟨k, c, e, z⟩
    ·refine .inl ⟨k, ?_⟩
     have : y ≠ x := fun e => hj (nodup_ix hN e1 (e ▸ hi))
     simp [this, e]
    ·exact .inr ⟨k, c, e, z.sameBut hs (cne y c e)⟩
  ·obtain ⟨w', z⟩ := I.cell y c e
   exact ⟨w', z.sameBut hs (cne y c e)⟩
  ·obtain ⟨e, n, ne, nf, d⟩ := I.pin p hp
   exact ⟨(hs.2 p.1 ne).trans e, n, ne, nf, d⟩
 ·have hfn : X.fn x = true := by
   rcases hf with z | z
   ·exact z
   ·rw [z] at hk; cases hk
  obtain ⟨c, hc⟩ := I.ok.has x (.inl hk)
  obtain ⟨w', z⟩ := I.cell x c hc
  refine wpAny_storeName_cell I.ok.kind hk hc z (fun h' hc' hs => ?_)
  obtain ⟨oc, hoc, hocd⟩ := id z
  refine h { s with heap := h' } ⟨I.ok, I.os, I.bare, ⟨fun b o e n hb hx => ?_, fun b o e n hb hx => ?_, I.base.free, fun b o e hx => ?_, I.base.tups, I.base.frzs, I.base.tbls⟩, ⟨m, hn.sameBut hs (Ne.symm (cne x c hc)), fun j y v' e1 e2 e3 => ?_⟩, fun y c' e => ?_, I.free, I.freeC, fun p hp => ?_, tracked ⟨oc, hoc, I.freeC x c hc⟩ hs, by simpa using I.len⟩ ⟨c, hs, .inr hc⟩
  ·exact (hs.2 b (Nat.ne_of_lt (Nat.lt_of_lt_of_le (Heap.lt_size e) (I.ok.cab x c hfn hc)))).trans (I.base.keep b o e n hb hx)
  ·obtain ⟨sl, e1⟩ := I.base.slot b o e n hb hx
   exact ⟨sl, (hs.2 b (Nat.ne_of_lt (Nat.lt_of_lt_of_le (Heap.lt_size e) (I.ok.cab x c hfn hc)))).trans e1⟩
  ·obtain ⟨o', e1⟩ := I.base.there b o e hx
   exact ⟨o', (hs.2 b (Nat.ne_of_lt (Nat.lt_of_lt_of_le (Heap.lt_size e) (I.ok.cab x c hfn hc)))).trans e1⟩
  ·by_cases hj : j = i
   ·subst hj
    rw [hi] at e1; cases e1
    rw [List.getElem?_set_self hiσ] at e2
    cases e2
    exact ⟨u, r, .inr ⟨.inl hk, c, hc, hc'⟩⟩
   ·rw [List.getElem?_set_ne (Ne.symm hj)] at e2
    obtain ⟨u', r', q⟩ := hl j y v' e1 e2 e3
    refine ⟨u', r', ?_⟩
    rcases q with q | ⟨k, c', e, z'⟩
    ·exact .inl q
    ·refine .inr ⟨k, c', e, z'.sameBut hs ?_⟩
     rintro rfl
     exact hj (nodup_ix hN e1 (I.ok.inj _ _ _ e hc ▸ hi))
  ·by_cases hcc : c' = c
   ·subst hcc; exact ⟨_, hc'⟩
   ·obtain ⟨w2, z2⟩ := I.cell y c' e
    exact ⟨w2, z2.sameBut hs hcc⟩
  ·obtain ⟨e, n, ne, nf, d⟩ := I.pin p hp
   refine ⟨(hs.2 p.1 ?_).trans e, n, ne, nf, d⟩
   intro q
   rw [q, hoc] at e
   have q' : oc = p.2 := Option.some.inj e
   exact d w' (by rw [← q']; exact hocd)
theorem store_ok {M : Model} {A : Around} {E : Value → Shared → Prop} {i : Nat} {x : Str} {v : V} {u : Value} {Q : Unit → Shared → Prop} (I : Inv X pins σ H s) (hN : X.N.Nodup) (hi : X.N[i]? = some x) (hx : Loc X.env.scope x) (r : RelV v u)
  (h : ∀ s', Inv X pins (σ.set i (some v)) H s' → Q () s') (hf : X.fn x = true ∨ X.env.scope.names.lookup x = some .local := by first | exact .inl rfl | exact .inr rfl | assumption) : wpAny M A (storeName X.env x u) Q E s :=
 store_ok2 I hN hi hx r (fun s' I' _ => h s' I') hf
theorem Inv.call' {s' : Shared} {ch : List Addr} (I : Inv X pins σ H s) (ho : s'.os = s.os) (u : Un (frs X.stack) ch H H' s.heap s'.heap) (hok : HOk X.prog X.w H' s'.heap) (hg : AllBare s'.gens)
  (hch : ∀ b ∈ ch, (b ∈ X.ex ∨ X.s_0.heap.objs.size ≤ b) ∧ b ≠ X.env.locals ∧ (∀ x c, X.env.cells.lookup x = some c → c ≠ b) ∧ ∀ p ∈ X.pn ++ pins, p.1 ≠ b) : Inv X pins σ H' s' := by
 obtain ⟨h', g', d', t', o'⟩ := s'
 have e : o' = s.os := ho
 subst e
 exact I.call (g' := g') (t' := t') (d' := d') u hok hg hch
end
abbrev XK := Value → Option Addr → Hp → Prop
abbrev St := List (Option V)
abbrev VK := V → Hp → Prop
abbrev TE := St → Hp → VK → Prop
abbrev TT := St → Hp → (Bool → Hp → Prop) → Prop
abbrev TA := St → Hp → (List V → Hp → Prop) → Prop
structure Ends where
 nx : St → Hp → Prop
 rt : VK
 bk : St → Hp → Prop := fun _ _ => False
 ct : St → Hp → Prop := fun _ _ => False
abbrev TS := Ends → St → Hp → Prop
def EP (X : Cx) (pins : List (Addr × Obj)) (σ : St) (Q : VK) (u : Value) (s' : Shared) : Prop := ∃ v H', Inv X pins σ H' s' ∧ RelV v u ∧ Q v H'
def TP (X : Cx) (pins : List (Addr × Obj)) (σ : St) (Q : Bool → Hp → Prop) (b : Bool) (s' : Shared) : Prop := ∃ H', Inv X pins σ H' s' ∧ Q b H'
def AP (X : Cx) (pins : List (Addr × Obj)) (σ : St) (Q : List V → Hp → Prop) (us : List Value) (s' : Shared) : Prop := ∃ vs H', Inv X pins σ H' s' ∧ Vals vs us ∧ Q vs H'
def SP (X : Cx) (pins : List (Addr × Obj)) (D : Ends) (f : Flow) (s' : Shared) : Prop :=
 match f with
 | .next => ∃ σ' H', Inv X pins σ' H' s' ∧ D.nx σ' H'
 | .brk => ∃ σ' H', Inv X pins σ' H' s' ∧ D.bk σ' H'
 | .cont => ∃ σ' H', Inv X pins σ' H' s' ∧ D.ct σ' H'
 | .ret u => ∃ v σ' H', Inv X pins σ' H' s' ∧ RelV v u ∧ D.rt v H'
def PE (X : Cx) (e : Expr) (t : TE) : Prop :=
 ∀ (pins : List (Addr × Obj)) (s : Shared) (σ : St) (H : Hp) (Q : VK), Inv X pins σ H s → t σ H Q → wpAny (model X.prog X.w) X.A (eval e X.env) (EP X pins σ Q) X.xe s
def PT (X : Cx) (e : Expr) (t : TT) : Prop :=
 ∀ (pins : List (Addr × Obj)) (s : Shared) (σ : St) (H : Hp) (Q : Bool → Hp → Prop), Inv X pins σ H s → t σ H Q → wpAny (model X.prog X.w) X.A (isTrue e X.env (eval e X.env)) (TP X pins σ Q) X.xe s
def PW (X : Cx) (e : Expr) (t : TT) : Prop :=
 ∀ (whole : Sem Value) (pins : List (Addr × Obj)) (s : Shared) (σ : St) (H : Hp) (Q : Bool → Hp → Prop), Inv X pins σ H s → t σ H Q → wpAny (model X.prog X.w) X.A (isTrue e X.env whole) (TP X pins σ Q) X.xe s
theorem PW.pt {X : Cx} {e : Expr} {t : TT} (h : PW X e t) : PT X e t := h _
def PA (X : Cx) (es : List Expr) (t : TA) : Prop :=
 ∀ (pos : Pos) (pins : List (Addr × Obj)) (s : Shared) (σ : St) (H : Hp) (Q : List V → Hp → Prop), Inv X pins σ H s → t σ H Q → wpAny (model X.prog X.w) X.A (spliced (backTo pos (starEach es X.env))) (AP X pins σ Q) X.xe s
def PS (X : Cx) (st : Stmt) (t : TS) : Prop :=
 ∀ (pins : List (Addr × Obj)) (s : Shared) (σ : St) (H : Hp) (D : Ends), Inv X pins σ H s → t D σ H → wpAny (model X.prog X.w) X.A (exec st X.env) (SP X pins D) X.xe s
def PSs (X : Cx) (st : List Stmt) (t : TS) : Prop :=
 ∀ (pins : List (Addr × Obj)) (s : Shared) (σ : St) (H : Hp) (D : Ends), Inv X pins σ H s → t D σ H → wpAny (model X.prog X.w) X.A (execs st X.env) (SP X pins D) X.xe s
theorem thn {α : Type} {t : Sem α} {Q Q' : α → Shared → Prop} {M : Model} {A : Around} {E : Value → Shared → Prop} {s : Shared} (h : wpAny M A t Q E s) (hQ : ∀ a s, Q a s → Q' a s) : wpAny M A t Q' E s := wpAny_mono h hQ fun _ _ x => x
end L2
namespace L2
open PySem PySem.Spec PyProof.Rows
section
variable {X : Cx}
theorem bin {a b : Expr} {ta tb : TE} (ha : PE X a ta) (hb : PE X b tb) {pins : List (Addr × Obj)} {s : Shared} {σ : St} {H : Hp} {R : V → V → Hp → Prop} (I : Inv X pins σ H s) (h : ta σ H fun x H1 => tb σ H1 fun y H2 => R x y H2)
  {α : Type} {Q : α → Shared → Prop} {f : Value → Value → Sem α}
  (hf : ∀ v u s2 x y H2, Inv X pins σ H2 s2 → RelV x v → RelV y u → R x y H2 → wpAny (model X.prog X.w) X.A (f v u) Q X.xe s2) :
  wpAny (model X.prog X.w) X.A (eval a X.env) (fun v s₁ => wpAny (model X.prog X.w) X.A (eval b X.env) (fun u s₂ => wpAny (model X.prog X.w) X.A (f v u) Q X.xe s₂) X.xe s₁) X.xe s := by
 refine thn (ha pins s σ H _ I h) fun v s1 ⟨x, H1, I1, r1, q1⟩ => ?_
 refine thn (hb pins s1 σ H1 _ I1 q1) fun u s2 ⟨y, H2, I2, r2, q2⟩ => ?_
 exact hf v u s2 x y H2 I2 r1 r2 q2
def tVar (i : Nat) : TE := fun σ H Q => ∃ v, σ[i]? = some (some v) ∧ Q v H
def tC (v : V) : TE := fun _ H Q => Q v H
theorem pe_var {i : Nat} {x : Str} {pos : Pos} (hN : X.N[i]? = some x) (hv : Vis X.env.scope x) (hd : (x == ("__debug__" : Str)) = false := by decide) (hcd : (x == ("__classdict__" : Str)) = false := by decide) : PE X (.Name x pos) (tVar i) := by
 intro pins s σ H Q I h
 obtain ⟨v, e, h⟩ := h
 obtain ⟨m, hn, hl⟩ := I.loc
 obtain ⟨u, r, l⟩ := hl i x v hN e hv
 have fin : EP X pins σ Q u s := ⟨v, H, I, r, h⟩
 rcases l with ⟨hk, hm⟩ | ⟨hk, c, hc, hcell⟩
 ·exact wpAny_Name (wpAny_loadName_local I.ok.kind hk hn hm fin) hd
 ·rcases hk with hk | hk
  ·exact wpAny_Name (wpAny_loadName_cell I.ok.kind hk hc hcell fin) hd
  ·exact wpAny_Name (wpAny_loadName_free I.ok.kind hk hc hcell fin hcd) hd
theorem pe_int {i j pos} : PE X (.Constant (.int i) j pos) (tC (.int i)) := fun _ _ _ H _ I h => wpAny_Constant_int ⟨.int i, H, I.tok _, ⟨_, rfl⟩, h⟩
theorem pe_bl {b j pos} : PE X (.Constant (.bool b) j pos) (tC (.bl b)) := fun _ _ _ H _ I h => Constant_bool ⟨.bl b, H, I, rfl, h⟩
theorem pe_non {j pos} : PE X (.Constant .none j pos) (tC .non) := fun _ _ _ H _ I h => Constant_none ⟨.non, H, I, rfl, h⟩
theorem pe_str {x j pos} : PE X (.Constant (.str x) j pos) (tC (.str x)) := fun _ _ _ H _ I h => Calls.Constant_str ⟨.str x, H, I.tok _, ⟨_, rfl⟩, h⟩
def Gl (X : Cx) (x : Str) : Prop := X.env.kindOf x = some .globalImplicit
theorem ld_glob {E : Value → Shared → Prop} {pins : List (Addr × Obj)} {s : Shared} {σ : St} {H : Hp} {x : Str} {u : Value} {pos : Pos} {Q : Value → Shared → Prop} (I : Inv X pins σ H s) (hg : Gl X x) (hm : X.mg x = some u) (h : Q u s)
  (hd : (x == ("__debug__" : Str)) = false := by decide) : wpAny (model X.prog X.w) X.A (eval (.Name x pos) X.env) Q E s :=
 Calls.Name_function_global I.ok.kind hg (Calls.loadGlobal_global (by rw [I.ok.glob]; exact I.mod.glob.keeps I.bk) hm h) hd
theorem ld_blt {E : Value → Shared → Prop} {pins : List (Addr × Obj)} {s : Shared} {σ : St} {H : Hp} {x : Str} {u : Value} {pos : Pos} {Q : Value → Shared → Prop} (I : Inv X pins σ H s) (hg : Gl X x) (hm : X.mg x = none) (hv : bootBuiltins x = some u) (h : Q u s)
  (hn : x ≠ "__name__" := by decide) (hd : (x == ("__debug__" : Str)) = false := by decide) : wpAny (model X.prog X.w) X.A (eval (.Name x pos) X.env) Q E s := by
 obtain ⟨mb, h1, h2⟩ := I.mod.blt
 exact Calls.Name_function_global I.ok.kind hg (Calls.loadGlobal_builtin (by rw [I.ok.glob]; exact I.mod.glob.keeps I.bk) hm (by rw [I.ok.blt]; exact h1.keeps I.bk) ((h2 x hn).trans hv) h) hd
theorem pe_glob {x : Str} {v : V} {u : Value} {pos : Pos} (hg : Gl X x) (hm : X.mg x = some u) (r : RelV v u) (hd : (x == ("__debug__" : Str)) = false := by decide) : PE X (.Name x pos) (tC v) :=
 fun _ _ _ H _ I h => ld_glob I hg hm ⟨v, H, I, r, h⟩ hd
variable {a b : Expr} {ta tb : TE} {pos : Pos}
def PC (X : Cx) (op : CmpOp) (a b : Expr) (t : TE) : Prop :=
 ∀ (pins : List (Addr × Obj)) (s : Shared) (σ : St) (H : Hp) (Q : VK), Inv X pins σ H s → t σ H Q →
  wpAny (model X.prog X.w) X.A (eval a X.env) (fun v s₁ => wpAny (model X.prog X.w) X.A (eval b X.env) (fun u s₂ => wpAny (model X.prog X.w) X.A (compareOp op v u) (EP X pins σ Q) X.xe s₂) X.xe s₁) X.xe s
def tB (t : TE) : TT := fun σ H Q => t σ H fun x H1 => ∃ c, x = .bl c ∧ Q c H1
theorem pt_cmp {op : CmpOp} {t : TE} (h : PC X op a b t) (h1 : behindInMarks op b = false := by first | exact nobehind _ (by decide) (by decide) | rfl) : PT X (.Compare a [op] [b] pos) (tB t) := by
 intro pins s σ H Q I hw
 refine wpAny_isTrue_Compare1 (thn (h pins s σ H _ I hw) fun v s1 h1 => thn h1 fun u s2 h2 => thn h2 fun c s3 ⟨x, H1, I1, r1, q1⟩ => ?_) h1
 obtain ⟨d, rfl, q⟩ := q1
 cases r1
 exact wpAny_truthy_bool ⟨H1, I1, q⟩
variable {tA tB' : TT} {rest : List Expr}
def tAnd (t u : TT) : TT := fun σ H Q => t σ H fun c H1 => if c = true then u σ H1 Q else Q false H1
def tOr (t u : TT) : TT := fun σ H Q => t σ H fun c H1 => if c = true then Q true H1 else u σ H1 Q
def tNot (t : TT) : TT := fun σ H Q => t σ H fun c H1 => Q (!c) H1
theorem pw_and1 (ha : PT X a tA) : PW X (.BoolOp .And [a] pos) tA := by
 intro wh pins s σ H Q I h
 refine isTrue_and (thn (ha pins s σ H Q I h) fun c s1 e => ?_)
 cases c with
 | true => exact isTrue_and_nil e
 | false => exact e
theorem pw_or1 (ha : PT X a tA) : PW X (.BoolOp .Or [a] pos) tA := by
 intro wh pins s σ H Q I h
 refine isTrue_or (thn (ha pins s σ H Q I h) fun c s1 e => ?_)
 cases c with
 | false => exact isTrue_or_nil e
 | true => exact e
theorem pw_and (ha : PT X a tA) (hb : PW X (.BoolOp .And (b :: rest) pos) tB') : PW X (.BoolOp .And (a :: b :: rest) pos) (tAnd tA tB') := by
 intro wh pins s σ H Q I h
 refine isTrue_and (thn (ha pins s σ H _ I h) fun c s1 ⟨H1, I1, q1⟩ => ?_)
 cases c with
 | true => exact hb wh pins s1 σ H1 Q I1 q1
 | false => exact ⟨H1, I1, q1⟩
theorem pw_or (ha : PT X a tA) (hb : PW X (.BoolOp .Or (b :: rest) pos) tB') : PW X (.BoolOp .Or (a :: b :: rest) pos) (tOr tA tB') := by
 intro wh pins s σ H Q I h
 refine isTrue_or (thn (ha pins s σ H _ I h) fun c s1 ⟨H1, I1, q1⟩ => ?_)
 cases c with
 | true => exact ⟨H1, I1, q1⟩
 | false => exact hb wh pins s1 σ H1 Q I1 q1
theorem pt_not (ha : PT X a tA) : PT X (.UnaryOp .Not a pos) (tNot tA) := by
 intro pins s σ H Q I h
 exact isTrue_not (ha pins s σ H (fun c H1 => Q (!c) H1) I h)
def tAndV (ta tb : TE) : TE := fun σ H Q => ta σ H fun x H1 => ∃ c, x = .bl c ∧ if c = true then tb σ H1 Q else Q (.bl false) H1
theorem pe_one {op} {t : TE} (h : PE X a t) : PE X (.BoolOp op [a] pos) t := fun pins s σ H Q I hw => BoolOp_one (h pins s σ H Q I hw)
theorem pe_and (ha : PE X a ta) (hb : PE X (.BoolOp .And (b :: rest) pos) tb) : PE X (.BoolOp .And (a :: b :: rest) pos) (tAndV ta tb) := by
 intro pins s σ H Q I h
 refine BoolOp_and (thn (ha pins s σ H _ I h) fun v s1 ⟨x, H1, I1, r1, q1⟩ => ?_)
 obtain ⟨c, rfl, q1⟩ := q1
 cases r1
 refine wpAny_truthy_bool ?_
 cases c with
 | true => exact hb pins s1 σ H1 Q I1 q1
 | false => exact ⟨.bl false, H1, I1, rfl, q1⟩
end
end L2
namespace L2
open PySem PySem.Spec PyProof.Rows
def SqL (K : PySem.W.Frag) (H : Hp) (a : Addr) (xs : List V) : Prop :=
 Rd H a (.lst xs) ∨
  ∃ (o : Obj) (its : Array Value) (n : Nat), K.lookup a = some o ∧ o.cls = .type "list" ∧ o.dict = none ∧ o.data = .seq its n ∧ its.size ≤ sizeLine ∧ Vals xs its.toList
def SqT (K : PySem.W.Frag) (H : Hp) (a : Addr) (xs : List V) : Prop :=
 Rd H a (.tup xs) ∨
  ∃ (o : Obj) (its : Array Value) (n : Nat), K.lookup a = some o ∧ o.cls = .type "tuple" ∧ o.data = .seq its n ∧ its.size ≤ sizeLine ∧ Vals xs its.toList
def absV : Value → Option V
 | .none => some .non
 | .bool b => some (.bl b)
 | .int i _ => some (.int i)
 | .str x _ => some (.str x)
 | .bytes b _ => some (.byt b)
 | .float b _ => some (.flt b)
 | .ref a => some (.ref a)
 | .type n => some (.ty n)
 | _ => none
theorem RelV.abs {x : V} {u : Value} (r : RelV x u) : absV u = some x := by
 cases x with
 | non => cases r; rfl
 | bl _ => cases r; rfl
 | int _ => obtain ⟨t, rfl⟩ := r; rfl
 | str _ => obtain ⟨t, rfl⟩ := r; rfl
 | byt _ => obtain ⟨t, rfl⟩ := r; rfl
 | flt _ => obtain ⟨t, rfl⟩ := r; rfl
 | ref _ => cases r; rfl
 | ty _ => cases r; rfl
theorem RelV.inj {x y : V} {u : Value} (r : RelV x u) (q : RelV y u) : x = y := Option.some.inj (r.abs.symm.trans q.abs)
theorem Vals.inj : ∀ {xs ys : List V} {us : List Value}, Vals xs us → Vals ys us → xs = ys
 | _, _, _, .nil, .nil => rfl
 | _, _, _, .cons r t, .cons r' t' => by rw [r.inj r', Vals.inj t t']
section
variable {X : Cx} {pins : List (Addr × Obj)} {σ : St} {H : Hp} {s : Shared} {a : Addr} {xs ys : List V}
theorem SqL.of {K : PySem.W.Frag} (h : H a = some (.lst xs)) : SqL K H a xs := .inl (.inl h)
theorem SqT.of {K : PySem.W.Frag} (h : H a = some (.tup xs)) : SqT K H a xs := .inl (.inl h)
theorem Inv.list (I : Inv X pins σ H s) (h : SqL X.K H a xs) : ∃ its : List Value, Vals xs its ∧ PlainL s.heap a its.toArray ∧ xs.length ≤ sizeLine := by
 rcases h with h | ⟨o, its, n, hk, hc, hd, hs, hz, r⟩
 ·obtain ⟨z, its, n, r, e⟩ := h.ok I.hok
  exact ⟨its, r, ⟨_, n, e, rfl, rfl, rfl⟩, z⟩
 ·refine ⟨its.toList, r, ⟨o, n, I.kIn a o hk, hc, hd, by simpa using hs⟩, ?_⟩
  have e := r.length
  simp only [Array.length_toList] at e
  omega
theorem Inv.tuple (I : Inv X pins σ H s) (h : SqT X.K H a xs) : ∃ its : List Value, Vals xs its ∧ IsTup s.heap a its.toArray ∧ xs.length ≤ sizeLine := by
 rcases h with h | ⟨o, its, n, hk, hc, hs, hz, r⟩
 ·obtain ⟨z, its, r, p⟩ := h.ok I.hok
  exact ⟨its, r, p, z⟩
 ·refine ⟨its.toList, r, ⟨o, I.kIn a o hk, hc, n, by simpa using hs⟩, ?_⟩
  have e := r.length
  simp only [Array.length_toList] at e
  omega
theorem Inv.list_inj (I : Inv X pins σ H s) (h : SqL X.K H a xs) (h' : SqL X.K H a ys) : xs = ys := by
 obtain ⟨its, r, ⟨o, n, e, _, _, d⟩, _⟩ := I.list h
 obtain ⟨its', r', ⟨o', n', e', _, _, d'⟩, _⟩ := I.list h'
 rw [e] at e'; cases e'
 rw [d] at d'
 injection d' with d1 _
 have : its = its' := by simpa using congrArg Array.toList d1
 subst this
 exact r.inj r'
theorem Inv.tuple_inj (I : Inv X pins σ H s) (h : SqT X.K H a xs) (h' : SqT X.K H a ys) : xs = ys := by
 obtain ⟨its, r, ⟨o, e, _, n, d⟩, _⟩ := I.tuple h
 obtain ⟨its', r', ⟨o', e', _, n', d'⟩, _⟩ := I.tuple h'
 rw [e] at e'; cases e'
 rw [d] at d'
 injection d' with d1 _
 have : its = its' := by simpa using congrArg Array.toList d1
 subst this
 exact r.inj r'
end
abbrev Cx.wish (X : Cx) (E : Value → Shared → Prop) : Cx := { X with xe := E }
abbrev Cx.nox (X : Cx) : Cx := X.wish fun _ _ => False
theorem Cx.Ok.wish {X : Cx} (ok : X.Ok) (E : Value → Shared → Prop) : (X.wish E).Ok :=
 ⟨ok.mod, ok.kind, ok.glob, ok.blt, ok.above, ok.inj, ok.has, ok.cab, ok.hd, ok.frames, ok.stk, ok.exf, ok.bs, ok.bsz, ok.noex, ok.exfs, ok.funs, ok.frf⟩
theorem Cx.Ok.unwish {X : Cx} {E : Value → Shared → Prop} (ok : (X.wish E).Ok) : X.Ok :=
 ⟨ok.mod, ok.kind, ok.glob, ok.blt, ok.above, ok.inj, ok.has, ok.cab, ok.hd, ok.frames, ok.stk, ok.exf, ok.bs, ok.bsz, ok.noex, ok.exfs, ok.funs, ok.frf⟩
section
variable {X : Cx} {pins : List (Addr × Obj)} {σ : St} {H : Hp} {s : Shared} {E : Value → Shared → Prop}
theorem Inv.wish (I : Inv X pins σ H s) (E : Value → Shared → Prop) : Inv (X.wish E) pins σ H s := ⟨I.ok.wish E, I.os, I.bare, I.base, I.loc, I.cell, I.free, I.freeC, I.pin, I.hok, I.len⟩
theorem Inv.unwish (I : Inv (X.wish E) pins σ H s) : Inv X pins σ H s := ⟨I.ok.unwish, I.os, I.bare, I.base, I.loc, I.cell, I.free, I.freeC, I.pin, I.hok, I.len⟩
theorem SP.unwish {D : Ends} {f : Flow} {s' : Shared} (h : SP (X.wish E) pins D f s') : SP X pins D f s' := by
 cases f with
 | next => obtain ⟨σ', H', I, q⟩ := h; exact ⟨σ', H', I.unwish, q⟩
 | brk => obtain ⟨σ', H', I, q⟩ := h; exact ⟨σ', H', I.unwish, q⟩
 | cont => obtain ⟨σ', H', I, q⟩ := h; exact ⟨σ', H', I.unwish, q⟩
 | ret u => obtain ⟨v, σ', H', I, r, q⟩ := h; exact ⟨v, σ', H', I.unwish, r, q⟩
theorem PSs.nox {st : List Stmt} {t : TS} (h : PSs X.nox st t) : PSs X st t := fun pins s σ H D I hw =>
 wpAny_mono (h pins s σ H D (I.wish _) hw) (fun _ _ q => q.unwish) fun _ _ z => False.elim z
end
section
variable {X : Cx} {st : Stmt} {rest : List Stmt} {t u : TS} {e : Expr} {te : TE} {pos : Pos}
def tNext : TS := fun D σ H => D.nx σ H
def tSeq (t u : TS) : TS := fun D σ H => t { D with nx := u D } σ H
theorem pss_nil : PSs X [] tNext := fun _ _ σ H _ I h => wpAny_execs_nil ⟨σ, H, I, h⟩
theorem pss_cons (h1 : PS X st t) (h2 : PSs X rest u) : PSs X (st :: rest) (tSeq t u) := by
 intro pins s σ H D I h
 refine wpAny_execs_cons (thn (h1 pins s σ H { D with nx := u D } I h) fun f s1 q => ?_)
 cases f with
 | next =>
  obtain ⟨σ', H', I', q⟩ := q
  exact h2 pins s1 σ' H' D I' q
 | ret v => exact q
 | brk => exact q
 | cont => exact q
theorem pss_one (h1 : PS X st t) : PSs X [st] t := by
 intro pins s σ H D I h
 refine wpAny_execs_cons (thn (h1 pins s σ H D I h) fun f s1 q => ?_)
 cases f with
 | next => exact wpAny_execs_nil q
 | ret v => exact q
 | brk => exact q
 | cont => exact q
theorem Inv.quiet {pins : List (Addr × Obj)} {σ : St} {H : Hp} {s : Shared} (I : Inv X pins σ H s) : interactive X.env = false := by simp [interactive, I.ok.kind]
def tDrop (te : TE) : TS := fun D σ H => te σ H fun _ H1 => D.nx σ H1
theorem ps_expr (he : PE X e te) (hs : swapsWith e none pos.line X.env = pure false := by rfl) : PS X (.Expr e pos) (tDrop te) := by
 intro pins s σ H D I h
 exact wpAny_Expr_any (thn (he pins s σ H _ I h) fun v s1 ⟨x, H1, I1, r1, q1⟩ => ⟨σ, H1, I1, q1⟩) I.quiet hs
def tRet (te : TE) : TS := fun D σ H => te σ H D.rt
theorem ps_ret (he : PE X e te) : PS X (.Return (some e) pos) (tRet te) := by
 intro pins s σ H D I h
 exact wpAny_Return_some (thn (he pins s σ H _ I h) fun v s1 ⟨x, H1, I1, r1, q1⟩ => ⟨x, σ, H1, I1, r1, q1⟩)
def tRetN : TS := fun D _ H => D.rt .non H
theorem ps_retN : PS X (.Return none pos) tRetN := fun _ _ σ H _ I h => wpAny_Return_none ⟨.non, σ, H, I, rfl, h⟩
def tIfS (c : TT) (t u : TS) : TS := fun D σ H => c σ H fun b H1 => if b = true then t D σ H1 else u D σ H1
theorem ps_if {c : Expr} {a b : List Stmt} {tc : TT} (hc : PT X c tc) (ha : PSs X a t) (hb : PSs X b u) : PS X (.If c a b pos) (tIfS tc t u) := by
 intro pins s σ H D I h
 refine wpAny_If (thn (hc pins s σ H _ I h) fun d s1 ⟨H1, I1, q1⟩ => ?_)
 cases d with
 | true => exact ha pins s1 σ H1 D I1 q1
 | false => exact hb pins s1 σ H1 D I1 q1
end
abbrev TG := V → St → Hp → (St → Hp → Prop) → Prop
abbrev TGs := List V → St → Hp → (St → Hp → Prop) → Prop
def PG (X : Cx) (target : Expr) (t : TG) : Prop :=
 ∀ (pins : List (Addr × Obj)) (s : Shared) (σ : St) (H : Hp) (v : V) (u : Value) (Q : St → Hp → Prop), Inv X pins σ H s → RelV v u → t v σ H Q →
  wpAny (model X.prog X.w) X.A (assign target X.env u) (fun _ s' => ∃ σ' H', Inv X pins σ' H' s' ∧ Q σ' H') X.xe s
def PGs (X : Cx) (ts : List Expr) (t : TGs) : Prop :=
 ∀ (pins : List (Addr × Obj)) (s : Shared) (σ : St) (H : Hp) (vs : List V) (us : List Value) (Q : St → Hp → Prop), Inv X pins σ H s → Vals vs us → t vs σ H Q →
  wpAny (model X.prog X.w) X.A (assignInOrder ((assignEach ts X.env).map (·.2)) us) (fun _ s' => ∃ σ' H', Inv X pins σ' H' s' ∧ Q σ' H') X.xe s
section
variable {X : Cx} {pos : Pos}
def gName (i : Nat) : TG := fun v σ H Q => Q (σ.set i (some v)) H
theorem pg_name {i : Nat} {x : Str} (hN : X.N.Nodup) (hi : X.N[i]? = some x) (hx : Loc X.env.scope x) (hf : X.fn x = true ∨ X.env.scope.names.lookup x = some .local := by first | exact .inl rfl | exact .inr rfl | assumption) : PG X (.Name x pos) (gName i) := by
 intro pins s σ H v u Q I r h
 exact wpAny_assign_Name (store_ok I hN hi hx r (fun s' I' => ⟨_, H, I', h⟩) hf)
def gNil : TGs := fun vs σ H Q => vs = [] ∧ Q σ H
def gCons (t : TG) (u : TGs) : TGs := fun vs σ H Q => ∃ v r, vs = v :: r ∧ t v σ H fun σ' H' => u r σ' H' Q
theorem pgs_nil : PGs X [] gNil := by
 intro pins s σ H vs us Q I r h
 obtain ⟨e, h⟩ := h
 subst e
 cases r
 exact assignInOrder_nil ⟨σ, H, I, h⟩
theorem pgs_cons {e : Expr} {es : List Expr} {t : TG} {u : TGs} (h1 : PG X e t) (h2 : PGs X es u)
  (hs : (assignEach (e :: es) X.env).map (·.2) = assign e X.env :: (assignEach es X.env).map (·.2) := by rfl) : PGs X (e :: es) (gCons t u) := by
 intro pins s σ H vs us Q I r h
 obtain ⟨v, vr, e1, h⟩ := h
 subst e1
 cases r with
 | cons r rr =>
  rw [hs]
  refine assignInOrder_cons (thn (h1 pins s σ H _ _ _ I r h) fun _ s1 ⟨σ1, H1, I1, q1⟩ => ?_)
  exact h2 pins s1 σ1 H1 _ _ Q I1 rr q1
def gTup (K : PySem.W.Frag) (n : Nat) (t : TGs) : TG := fun v σ H Q => ∃ a xs, v = .ref a ∧ SqT K H a xs ∧ xs.length = n ∧ t xs σ H Q
theorem pg_tup {es : List Expr} {k : Nat} {t : TGs} {n : Nat} (hc : X.calm = true) (h : PGs X es t)
  (hn : (assignEach es X.env).length = n := by rfl) (hst : (assignEach es X.env).findIdx? (·.1) = none := by rfl) : PG X (.Tuple es k pos) (gTup X.K n t) := by
 intro pins s σ H v u Q I r hw
 obtain ⟨a, xs, e1, hq, hl, hw⟩ := hw
 subst e1
 cases r
 obtain ⟨its, rv, ht, hz⟩ := I.tuple hq
 refine assign_Tuple_tuple (I.ok.hd hc) ht (by simp [hn, ← hl, rv.length]) hst fun h' hx => ?_
 have I1 : Inv X pins σ H { s with heap := h' } := I.kept (t' := s.toks) fun b o e => hx b o (Nat.ne_of_lt (Heap.lt_size e)) e
 exact h pins _ σ H xs _ Q I1 (by simpa using rv) hw
def tAsg (te : TE) (g : TG) : TS := fun D σ H => te σ H fun x H1 => g x σ H1 D.nx
theorem ps_set {i : Nat} {x : Str} {e : Expr} {te : TE} {pos' : Pos} (hN : X.N.Nodup) (hi : X.N[i]? = some x) (hx : Loc X.env.scope x) (he : PE X e te) (hs : swapsWith e (some (.Name x pos')) pos.line X.env = pure false := by rfl) (hf : X.fn x = true ∨ X.env.scope.names.lookup x = some .local := by first | exact .inl rfl | exact .inr rfl | assumption) :
  PS X (.Assign [.Name x pos'] e pos) (tAsg te (gName i)) := by
 intro pins s σ H D I h
 refine wpAny_Assign_Name (thn (he pins s σ H _ I h) fun v s1 ⟨y, H1, I1, r1, q1⟩ => ?_) hs
 exact store_ok I1 hN hi hx r1 (fun s2 I2 => ⟨_, H1, I2, q1⟩) hf
end
section
variable {X : Cx} {pos : Pos}
def tWhile (c : TT) (tb : TS) : TS := fun D σ H => ∃ W : Nat → St → Hp → Prop, (∃ m, W m σ H) ∧ ∀ m σ H, W m σ H →
 c σ H fun b H1 => if b = true then ∃ N : St → Hp → Prop, (∀ σ' H', N σ' H' → ∃ m', m' < m ∧ W m' σ' H') ∧ tb { D with nx := N, ct := N, bk := D.nx } σ H1 else D.nx σ H1
theorem ps_while {c : Expr} {body : List Stmt} {tc : TT} {tb : TS} (hp : PassesOwn (model X.prog X.w) X.A X.env X.xe) (hc : PT X c tc) (hb : PSs X body tb) : PS X (.While c body [] pos) (tWhile tc tb) := by
 intro pins s σ H D I h
 obtain ⟨W, ⟨m0, w0⟩, turn⟩ := h
 refine wpAny_While (codeAny_whileLoop (fun n s' => ∃ σ' H', Inv X pins σ' H' s' ∧ W n σ' H') ?_ m0 ⟨σ, H, I, w0⟩)
 rintro n s1 ⟨σ1, H1, I1, w1⟩
 refine wpAny_passesOwn hp (thn (hc pins s1 σ1 H1 _ I1 (turn n σ1 H1 w1)) fun b s2 ⟨H2, I2, q2⟩ => ?_)
 cases b with
 | true =>
  obtain ⟨N, hN, q2⟩ := q2
  rw [if_pos rfl]
  refine wpAny_passesOwn hp (thn (hb pins s2 σ1 H2 _ I2 q2) fun f s3 q3 => ?_)
  cases f with
  | next =>
   obtain ⟨σ3, H3, I3, n3⟩ := q3
   obtain ⟨m', hm, w3⟩ := hN σ3 H3 n3
   exact ⟨m', hm, σ3, H3, I3, w3⟩
  | cont =>
   obtain ⟨σ3, H3, I3, n3⟩ := q3
   obtain ⟨m', hm, w3⟩ := hN σ3 H3 n3
   exact ⟨m', hm, σ3, H3, I3, w3⟩
  | brk => exact q3
  | ret v => exact q3
 | false =>
  rw [if_neg Bool.false_ne_true]
  exact wpAny_execs_nil ⟨σ1, H2, I2, q2⟩
end
structure It where
 go : Nat → Hp → Prop
 yld : Nat → Hp → V → Hp → Prop
 stop : Nat → Hp → Prop
def FpOk (X : Cx) (pins : List (Addr × Obj)) (H : Hp) (b : Addr) : Prop :=
 H b = none ∧ b ≠ X.env.locals ∧ b ∉ X.fs ∧ (b ∈ X.ex ∨ X.s_0.heap.objs.size ≤ b) ∧ (∀ x c, X.env.cells.lookup x = some c → c ≠ b) ∧ ∀ p ∈ X.pn ++ pins, p.1 ≠ b
theorem Inv.fpOk {X : Cx} {pins : List (Addr × Obj)} {σ : St} {H H' : Hp} {s : Shared} {b : Addr} (I : Inv X pins σ H s) (hb : s.heap.objs.size ≤ b) (hn : H' b = none) : FpOk X pins H' b := by
 refine ⟨hn, Nat.ne_of_gt (Nat.lt_of_lt_of_le I.lt hb), I.nofs hb, .inr (Nat.le_trans I.sz hb), fun x c e z => ?_, fun p hp z => ?_⟩
 ·obtain ⟨v, q⟩ := I.cell x c e
  exact absurd (Nat.lt_of_lt_of_le q.lt (by rw [z]; exact hb)) (Nat.lt_irrefl _)
 ·exact absurd (Nat.lt_of_lt_of_le (Heap.lt_size (I.pin p hp).1) (by rw [z]; exact hb)) (Nat.lt_irrefl _)
structure Turn (P : Program) (w : World) (K : PySem.W.Frag) (tg : Expr) (J : It) (fp : List Addr) (it : Addr) (tn : Nat → Heap → Prop) : Prop where
 mem : it ∈ fp
 obj : ∀ i h, tn i h → ∀ b ∈ fp, ∃ o, h.get? b = some o ∧ ∀ v, o.data ≠ .cell v
 keep : ∀ i h h', tn i h → (∀ b ∈ fp, ∀ o, h.get? b = some o → h'.get? b = some o) → tn i h'
 item : ∀ (X : Cx), X.prog = P → X.w = w → X.K = K → X.calm = true → ∀ (i : Nat) (pins : List (Addr × Obj)) (s : Shared) (σ : St) (H : Hp) (E : Value → Shared → Prop), Inv X pins σ H s → (∀ b ∈ fp, FpOk X pins H b) → tn i s.heap → J.go i H →
  wpAny (model P w) X.A (pyNext (.ref it)) (fun r s1 => ∃ u, r = some u ∧
   wpAny (model P w) X.A (letOwnedTupleGo tg (.ref it) u) (fun _ s2 => ∃ x H', Inv X pins σ H' s2 ∧ RelV x u ∧ J.yld i H x H' ∧ tn (i + 1) s2.heap ∧ ∀ b ∈ fp, H' b = none) E s1) E s
 done : ∀ (X : Cx), X.prog = P → X.w = w → X.K = K → X.calm = true → ∀ (i : Nat) (pins : List (Addr × Obj)) (s : Shared) (σ : St) (H : Hp) (E : Value → Shared → Prop), Inv X pins σ H s → (∀ b ∈ fp, FpOk X pins H b) → tn i s.heap → J.stop i H →
  wpAny (model P w) X.A (pyNext (.ref it)) (fun r s1 => r = none ∧ Inv X pins σ H s1) E s
 self : ∀ (A : Around) (i : Nat) (s : Shared) (Q : Value → Shared → Prop) (E : Value → Shared → Prop), tn i s.heap → Q (.ref it) s → wpAny (model P w) A (pyIter (.ref it)) Q E s
abbrev TI := St → Hp → (It → Hp → Prop) → Prop
def PIE (X : Cx) (pins : List (Addr × Obj)) (σ : St) (tg : Expr) (R : It → Hp → Prop) (itv : Value) (s2 : Shared) : Prop :=
 ∃ (it : Addr) (fp : List Addr) (tn : Nat → Heap → Prop) (J : It) (H' : Hp), itv = .ref it ∧ Inv X pins σ H' s2 ∧ Turn X.prog X.w X.K tg J fp it tn ∧ tn 0 s2.heap ∧ (∀ b ∈ fp, FpOk X pins H' b) ∧ R J H'
def PI (X : Cx) (tg iter : Expr) (wi : TI) : Prop :=
 ∀ (pins : List (Addr × Obj)) (s : Shared) (σ : St) (H : Hp) (R : It → Hp → Prop), Inv X pins σ H s → wi σ H R →
  wpAny (model X.prog X.w) X.A (eval iter X.env) (fun v s1 => wpAny (model X.prog X.w) X.A (pyIter v) (PIE X pins σ tg R) X.xe s1) X.xe s
theorem go_of {M : Model} {A : Around} {E : Value → Shared → Prop} {s : Shared} {tg : Expr} {it : Addr} {u : Value} {o : Obj} {n : String} {vs : Array Value} {Q : Unit → Shared → Prop} (ho : s.heap.get? it = some o) (hc : o.cls = .type n) (hd : o.data = .fields vs)
  (hn : ["enumerate", "zip", "dict_itemiterator", "dict_reverseitemiterator", "odict_iterator", "itertools.zip_longest", "itertools.pairwise"].contains n = false) (hQ : Q () s) : wpAny M A (letOwnedTupleGo tg (.ref it) u) Q E s := by
 unfold letOwnedTupleGo
 cases tg <;> first
  | exact wpAny_pure hQ
  | (cases u <;> first
    | exact wpAny_pure hQ
    | (refine wpAny_bind (wpAny_load ho ?_)
       rw [hc, hd]
       show wpAny M A (if (["enumerate", "zip", "dict_itemiterator", "dict_reverseitemiterator", "odict_iterator", "itertools.zip_longest", "itertools.pairwise"].contains n && vs[0]? == some (rawInt _)) = true then _ else _) Q E s
       rw [if_neg (by intro h; rw [hn, Bool.false_and] at h; cases h)]
       exact wpAny_pure hQ))
def Itl (K : PySem.W.Frag) (a : Addr) : It :=
 ⟨fun i H => ∃ xs x, SqL K H a xs ∧ xs[i]? = some x, fun i H x H' => H' = H ∧ ∀ xs, SqL K H a xs → xs[i]? = some x, fun i H => ∃ xs, SqL K H a xs ∧ xs.length ≤ i⟩
def Itt (K : PySem.W.Frag) (a : Addr) : It :=
 ⟨fun i H => ∃ xs x, SqT K H a xs ∧ xs[i]? = some x, fun i H x H' => H' = H ∧ ∀ xs, SqT K H a xs → xs[i]? = some x, fun i H => ∃ xs, SqT K H a xs ∧ xs.length ≤ i⟩
def Itr (lo : Int) (n : Nat) : It := ⟨fun i _ => i < n, fun i H x H' => H' = H ∧ x = .int (lo + i), fun i _ => n ≤ i⟩
theorem turn_list {P : Program} {w : World} {K : PySem.W.Frag} {tg : Expr} (a it : Addr) : Turn P w K tg (Itl K a) [it] it (fun i h => h.IsListIter it a i) where
 mem := by simp
 obj := fun i h st b hb => by
  have e : b = it := by simpa using hb
  subst e
  obtain ⟨o, e, c, d⟩ := st
  exact ⟨o, e, fun v z => by rw [d] at z; cases z⟩
 keep := fun i h h' st k => st.at fun o e => k it (by simp) o e
 item := by
  intro X hP hw hK hc i pins s σ H E I hf st hg
  subst hP hw hK
  obtain ⟨xs, x, hq, hx⟩ := hg
  obtain ⟨its, rv, p, hz⟩ := I.list hq
  obtain ⟨u, hu, ru⟩ := rv.get hx
  obtain ⟨f0, f1, f2, f3, f4, f5⟩ := hf it (by simp)
  refine wpAny_pyNext_list_item st p.isList (x := u) (by simpa using hu) fun h' st' sb => ?_
  have I1 : Inv X pins σ H { s with heap := h' } := I.turned (t' := s.toks) (fun b o hb e => (sb.2 b hb).trans e) f0 f1 f3 f4 f5
  obtain ⟨o, e, c, d⟩ := id st'
  exact ⟨u, rfl, go_of (s := { s with heap := h' }) e c d (by decide) ⟨x, H, I1, ru, ⟨rfl, fun ys hy => by rw [I.list_inj hy hq]; exact hx⟩, st', fun b hb => (hf b hb).1⟩⟩
 done := by
  intro X hP hw hK hc i pins s σ H E I hf st hg
  subst hP hw hK
  obtain ⟨xs, hq, hx⟩ := hg
  obtain ⟨its, rv, p, hz⟩ := I.list hq
  obtain ⟨f0, f1, f2, f3, f4, f5⟩ := hf it (by simp)
  have hl := rv.length
  exact wpAny_pyNext_list_end (I.ok.hd hc) st p.isList (by simp; omega) fun h' eb => ⟨rfl, I.turned (t' := s.toks) (fun b o hb e => eb b o hb e) f0 f1 f3 f4 f5⟩
 self := fun _ _ _ _ _ st h => wpAny_pyIter_listiter st h
theorem turn_tuple {P : Program} {w : World} {K : PySem.W.Frag} {tg : Expr} (a it : Addr) : Turn P w K tg (Itt K a) [it] it (fun i h => h.IsTupleIter it a i) where
 mem := by simp
 obj := fun i h st b hb => by
  have e : b = it := by simpa using hb
  subst e
  obtain ⟨o, e, c, d⟩ := st
  exact ⟨o, e, fun v z => by rw [d] at z; cases z⟩
 keep := fun i h h' st k => st.at fun o e => k it (by simp) o e
 item := by
  intro X hP hw hK hc i pins s σ H E I hf st hg
  subst hP hw hK
  obtain ⟨xs, x, hq, hx⟩ := hg
  obtain ⟨its, rv, p, hz⟩ := I.tuple hq
  obtain ⟨u, hu, ru⟩ := rv.get hx
  obtain ⟨f0, f1, f2, f3, f4, f5⟩ := hf it (by simp)
  refine wpAny_pyNext_tuple_item st (show s.heap.IsTuple a its.toArray from p) (x := u) (by simpa using hu) fun h' st' sb => ?_
  have I1 : Inv X pins σ H { s with heap := h' } := I.turned (t' := s.toks) (fun b o hb e => (sb.2 b hb).trans e) f0 f1 f3 f4 f5
  obtain ⟨o, e, c, d⟩ := id st'
  exact ⟨u, rfl, go_of (s := { s with heap := h' }) e c d (by decide) ⟨x, H, I1, ru, ⟨rfl, fun ys hy => by rw [I.tuple_inj hy hq]; exact hx⟩, st', fun b hb => (hf b hb).1⟩⟩
 done := by
  intro X hP hw hK hc i pins s σ H E I hf st hg
  subst hP hw hK
  obtain ⟨xs, hq, hx⟩ := hg
  obtain ⟨its, rv, p, hz⟩ := I.tuple hq
  obtain ⟨f0, f1, f2, f3, f4, f5⟩ := hf it (by simp)
  have hl := rv.length
  exact wpAny_pyNext_tuple_end (I.ok.hd hc) st (show s.heap.IsTuple a its.toArray from p) (by simp; omega) fun h' eb => ⟨rfl, I.turned (t' := s.toks) (fun b o hb e => eb b o hb e) f0 f1 f3 f4 f5⟩
 self := fun _ _ _ _ _ st h => wpAny_pyIter_tupleiter st h
theorem turn_range {P : Program} {w : World} {K : PySem.W.Frag} {tg : Expr} (it : Addr) (lo : Int) (n : Nat) : Turn P w K tg (Itr lo n) [it] it (fun i h => IsRangeIter h it (lo + (i : Nat) * 1) ((n : Int) - (i : Nat)) 1) where
 mem := by simp
 obj := fun i h st b hb => by
  have e : b = it := by simpa using hb
  subst e
  exact ⟨_, st, fun v z => by
   have z' : Data.fields _ = Data.cell v := z
   cases z'⟩
 keep := fun i h h' st k => k it (by simp) _ st
 item := by
  intro X hP hw hK hc i pins s σ H E I hf st hg
  subst hP hw hK
  obtain ⟨f0, f1, f2, f3, f4, f5⟩ := hf it (by simp)
  have W := Walks.range (prog := X.prog) (w := X.w) (I.ok.hd hc) it lo 1 n
  refine W.item i s _ _ hg st fun v h' tk hv st' kk => ?_
  obtain ⟨t, rfl⟩ := hv
  have I1 : Inv X pins σ H { s with heap := h', toks := tk } := I.turned (fun b o hb e => kk b o (by simpa using hb) e) f0 f1 f3 f4 f5
  refine ⟨_, rfl, go_of (s := { s with heap := h', toks := tk }) (n := "range_iterator") st' rfl rfl (by decide) ⟨.int (lo + i), H, I1, ⟨t, ?_⟩, ⟨rfl, rfl⟩, st', fun b hb => (hf b hb).1⟩⟩
  rw [Int.mul_one]
 done := by
  intro X hP hw hK hc i pins s σ H E I hf st hg
  subst hP hw hK
  obtain ⟨f0, f1, f2, f3, f4, f5⟩ := hf it (by simp)
  exact wpAny_pyNext_range_end (I.ok.hd hc) st (by have : n ≤ i := hg; omega) fun h' eb => ⟨rfl, I.turned (t' := s.toks) (fun b o hb e => eb b o hb e) f0 f1 f3 f4 f5⟩
 self := fun _ _ _ _ _ st h => wpAny_pyIter_rangeiter st h
end L2
namespace L2
open PySem PySem.Spec PyProof.Rows
section
variable {X : Cx} {tg : Expr}
def iList (K : PySem.W.Frag) (tl : TE) : TI := fun σ H R => tl σ H fun x H1 => ∃ a, x = .ref a ∧ (∃ xs, SqL K H1 a xs) ∧ R (Itl K a) H1
def iTup (K : PySem.W.Frag) (tl : TE) : TI := fun σ H R => tl σ H fun x H1 => ∃ a, x = .ref a ∧ (∃ xs, SqT K H1 a xs) ∧ R (Itt K a) H1
theorem pi_list {l : Expr} {tl : TE} (hl : PE X l tl) : PI X tg l (iList X.K tl) := by
 intro pins s σ H R I h
 refine thn (hl pins s σ H _ I h) fun v s1 ⟨x, H1, I1, r1, q1⟩ => ?_
 obtain ⟨a, e, ⟨xs, hq⟩, q⟩ := q1
 subst e
 cases r1
 obtain ⟨its, rv, p, hz⟩ := I1.list hq
 refine wpAny_pyIter_list p.isList ?_
 refine ⟨s1.heap.objs.size, [s1.heap.objs.size], _, _, H1, rfl, I1.kept (t' := s1.toks) fun b o e => Heap.get?_push_of_some _ e, turn_list a _, ⟨_, Heap.get?_push_size _ rfl, rfl, rfl⟩, fun b hb => ?_, q⟩
 have e : b = s1.heap.objs.size := by simpa using hb
 subst e
 exact I1.fpOk (Nat.le_refl _) (I1.hok.fresh (Nat.le_refl _))
theorem pi_tup {l : Expr} {tl : TE} (hl : PE X l tl) : PI X tg l (iTup X.K tl) := by
 intro pins s σ H R I h
 refine thn (hl pins s σ H _ I h) fun v s1 ⟨x, H1, I1, r1, q1⟩ => ?_
 obtain ⟨a, e, ⟨xs, hq⟩, q⟩ := q1
 subst e
 cases r1
 obtain ⟨its, rv, p, hz⟩ := I1.tuple hq
 refine wpAny_pyIter_tuple (show s1.heap.IsTuple a its.toArray from p) ?_
 refine ⟨s1.heap.objs.size, [s1.heap.objs.size], _, _, H1, rfl, I1.kept (t' := s1.toks) fun b o e => Heap.get?_push_of_some _ e, turn_tuple a _, ⟨_, Heap.get?_push_size _ rfl, rfl, rfl⟩, fun b hb => ?_, q⟩
 have e : b = s1.heap.objs.size := by simpa using hb
 subst e
 exact I1.fpOk (Nat.le_refl _) (I1.hok.fresh (Nat.le_refl _))
theorem range_it {pins : List (Addr × Obj)} {σ : St} {H : Hp} {s : Shared} {R : It → Hp → Prop} {E : Value → Shared → Prop} {lo hi : Int} {t u v : Tok} {tk : Nat} (I : Inv X pins σ H s) (h1 : -(2 ^ 62) ≤ lo) (h2 : lo < 2 ^ 62) (h3 : -(2 ^ 62) ≤ hi) (h4 : hi < 2 ^ 62)
  (q : R (Itr lo (hi - lo).toNat) H) : wpAny (model X.prog X.w) X.A (pyIter (.ref s.heap.objs.size)) (PIE X pins σ tg R) E { s with heap := s.heap.push { cls := .type "range", data := .fields #[.int lo t, .int hi u, .int 1 v] }, toks := tk } := by
 refine wpAny_pyIter_range (IsRange.new ..) (small_one h1 h2 h3 h4) ?_
 have I1 : Inv X pins σ H { s with heap := s.heap.push { cls := .type "range", data := .fields #[.int lo t, .int hi u, .int 1 v] }, toks := tk } := I.kept fun b o e => Heap.get?_push_of_some _ e
 refine ⟨(s.heap.push { cls := .type "range", data := .fields #[.int lo t, .int hi u, .int 1 v] }).objs.size, [(s.heap.push { cls := .type "range", data := .fields #[.int lo t, .int hi u, .int 1 v] }).objs.size], _, _, H, rfl,
  I1.kept (t' := tk) fun b o e => Heap.get?_push_of_some _ e, turn_range _ lo (hi - lo).toNat, ?_, fun b hb => ?_, q⟩
 ·have e1 : lo + ((0 : Nat) : Int) * 1 = lo := by simp
  have e2 : (((hi - lo).toNat : Nat) : Int) - ((0 : Nat) : Int) = Builtin.Range.rangeSize lo hi 1 := by rw [rangeSize_one]; split <;> omega
  show IsRangeIter _ _ (lo + ((0 : Nat) : Int) * 1) ((((hi - lo).toNat : Nat) : Int) - ((0 : Nat) : Int)) 1
  rw [e1, e2]
  exact Heap.get?_push_size _ rfl
 ·have e : b = (s.heap.push { cls := .type "range", data := .fields #[.int lo t, .int hi u, .int 1 v] }).objs.size := by simpa using hb
  subst e
  exact I1.fpOk (Nat.le_refl _) (I1.hok.fresh (Nat.le_refl _))
def iRng1 (ta : TA) : TI := fun σ H R => ta σ H fun vs H1 => ∃ j : Int, vs = [.int j] ∧ -(2 ^ 62) ≤ j ∧ j < 2 ^ 62 ∧ R (Itr 0 j.toNat) H1
theorem pi_range1 {a : Expr} {ta : TA} {p pos : Pos} (hg : Gl X "range") (hm : X.mg "range" = none) (ha : PA X [a] ta) (hs : starEach [a] X.env = [(false, eval a X.env)] := by rfl) : PI X tg (.Call (.Name "range" p) [a] [] pos) (iRng1 ta) := by
 intro pins s σ H R I h
 refine Call_ (ld_blt I hg hm boot_range (PyProof.Rows.callWith_type1 (thn (ha pos pins s σ H _ I h) fun us s1 ⟨vs, H1, I1, r1, q1⟩ => ?_) hs rfl))
 obtain ⟨j, e, q1, q2, q⟩ := q1
 subst e
 cases r1 with
 | cons r rr =>
  cases rr
  obtain ⟨t, rfl⟩ := r
  exact call_range_1 (range_it I1 (by omega) (by omega) q1 q2 (by simpa using q))
def tFor (wi : TI) (g : TG) (tb : TS) : TS := fun D σ H => wi σ H fun J H1 => ∃ W : Nat → Nat → St → Hp → Prop, (∃ m, W 0 m σ H1) ∧ ∀ i m σ H, W i m σ H →
 (J.stop i H ∧ D.nx σ H) ∨ (J.go i H ∧ ∃ N : St → Hp → Prop, (∀ σ' H', N σ' H' → ∃ m', m' < m ∧ W (i + 1) m' σ' H') ∧ ∀ x H', J.yld i H x H' → g x σ H' fun σ2 H2 => tb { D with nx := N, ct := N, bk := D.nx } σ2 H2)
def pinsAt (fp : List Addr) (h : Heap) : List (Addr × Obj) := fp.filterMap fun b => (h.get? b).map fun o => (b, o)
theorem mem_pinsAt {fp : List Addr} {h : Heap} {b : Addr} {o : Obj} (hb : b ∈ fp) (e : h.get? b = some o) : (b, o) ∈ pinsAt fp h := List.mem_filterMap.mpr ⟨b, hb, by rw [e]; rfl⟩
theorem of_pinsAt {fp : List Addr} {h : Heap} {p : Addr × Obj} (hp : p ∈ pinsAt fp h) : p.1 ∈ fp ∧ h.get? p.1 = some p.2 := by
 obtain ⟨b, hb, e⟩ := List.mem_filterMap.mp hp
 cases q : h.get? b with
 | none => rw [q] at e; cases e
 | some o =>
  rw [q] at e
  have e' : (b, o) = p := Option.some.inj e
  subst e'
  exact ⟨hb, q⟩
theorem Inv.pinned {pins : List (Addr × Obj)} {σ : St} {H : Hp} {s : Shared} {fp : List Addr} (I : Inv X pins σ H s) (hf : ∀ b ∈ fp, FpOk X pins H b) (ho : ∀ b ∈ fp, ∃ o, s.heap.get? b = some o ∧ ∀ v, o.data ≠ .cell v) : Inv X (pins ++ pinsAt fp s.heap) σ H s :=
 I.pins_of fun p hp => (List.mem_append.mp hp).elim (fun z => I.pin p (List.mem_append_right _ z)) fun z => by
  obtain ⟨hb, e⟩ := of_pinsAt z
  obtain ⟨f0, f1, f2, _⟩ := hf p.1 hb
  obtain ⟨o, e', d⟩ := ho p.1 hb
  rw [e] at e'; cases e'
  exact ⟨e, f0, f1, f2, d⟩
theorem Inv.unpinned {pins pl : List (Addr × Obj)} {σ : St} {H : Hp} {s : Shared} (I : Inv X (pins ++ pl) σ H s) : Inv X pins σ H s := I.pins_of fun p hp => I.pin p (List.mem_append_right _ (List.mem_append_left _ hp))
theorem ps_for {iter : Expr} {body : List Stmt} {wi : TI} {g : TG} {tb : TS} {pos : Pos} (hp : PassesOwn (model X.prog X.w) X.A X.env X.xe) (hc : X.calm = true) (hi : PI X tg iter wi) (hg : PG X tg g) (hb : PSs X body tb)
  (hs : ∀ x, foldedSetIterable iter X.env x = pure x := by intro _; rfl) : PS X (.For tg iter body [] pos) (tFor wi g tb) := by
 intro pins s σ H D I h
 refine wpAny_For (thn (hi pins s σ H _ I h) fun v s1 h1 => thn h1 fun itv s2 h2 => ?_) hs
 obtain ⟨it, fp, tn, J, H2, e, I2, T, st2, f2, W, ⟨m0, w0⟩, turn⟩ := h2
 subst e
 have stat : ∀ {H' : Hp}, (∀ b ∈ fp, H' b = none) → ∀ b ∈ fp, FpOk X pins H' b := fun hn b hb => ⟨hn b hb, (f2 b hb).2⟩
 refine codeAny_forLoop_any (fun n s' => ∃ i σ' H', Inv X pins σ' H' s' ∧ tn i s'.heap ∧ (∀ b ∈ fp, H' b = none) ∧ W i n σ' H') ?_ m0 ⟨0, σ, H2, I2, st2, fun b hb => (f2 b hb).1, w0⟩
 rintro n s3 ⟨i, σ3, H3, I3, st3, fr3, w3⟩
 rcases turn i n σ3 H3 w3 with ⟨stop, qn⟩ | ⟨go, N, hN, step⟩
 ·refine wpAny_passesOwn hp (thn (T.done X rfl rfl rfl hc i pins s3 σ3 H3 X.xe I3 (stat fr3) st3 stop) fun r s4 ⟨hr, I4⟩ => ?_)
  subst hr
  exact wpAny_execs_nil ⟨σ3, H3, I4, qn⟩
 ·refine wpAny_passesOwn hp (thn (T.item X rfl rfl rfl hc i pins s3 σ3 H3 X.xe I3 (stat fr3) st3 go) fun r s4 ⟨u, hr, h4⟩ => ?_)
  subst hr
  refine wpAny_passesOwn hp (thn h4 fun _ s5 ⟨x, H5, I5, r5, y5, st5, fr5⟩ => ?_)
  have I5' := I5.pinned (stat fr5) (T.obj _ _ st5)
  refine wpAny_passesOwn hp (thn (hg _ s5 σ3 H5 x u _ I5' r5 (step x H5 y5)) fun _ s6 ⟨σ6, H6, I6, q6⟩ => ?_)
  refine wpAny_passesOwn hp (thn (hb _ s6 σ6 H6 _ I6 q6) fun f s7 q7 => ?_)
  have again : ∀ {σ7 : St} {H7 : Hp}, Inv X (pins ++ pinsAt fp s5.heap) σ7 H7 s7 → N σ7 H7 → ∃ m, m < n ∧ ∃ i σ' H', Inv X pins σ' H' s7 ∧ tn i s7.heap ∧ (∀ b ∈ fp, H' b = none) ∧ W i m σ' H' := fun {σ7 H7} I7 n7 => by
   obtain ⟨m', hm, w7⟩ := hN σ7 H7 n7
   refine ⟨m', hm, i + 1, σ7, H7, I7.unpinned, T.keep _ _ _ st5 fun b hb o e => (I7.pin (b, o) (List.mem_append_right _ (List.mem_append_right _ (mem_pinsAt hb e)))).1, fun b hb => ?_, w7⟩
   obtain ⟨o, e, d⟩ := T.obj _ _ st5 b hb
   exact (I7.pin (b, o) (List.mem_append_right _ (List.mem_append_right _ (mem_pinsAt hb e)))).2.1
  cases f with
  | next => obtain ⟨σ7, H7, I7, n7⟩ := q7; exact again I7 n7
  | cont => obtain ⟨σ7, H7, I7, n7⟩ := q7; exact again I7 n7
  | brk => obtain ⟨σ7, H7, I7, q7⟩ := q7; exact ⟨σ7, H7, I7.unpinned, q7⟩
  | ret v => obtain ⟨x7, σ7, H7, I7, r7, q7⟩ := q7; exact ⟨x7, σ7, H7, I7.unpinned, r7, q7⟩
end
theorem for_list {K : PySem.W.Frag} {a : Addr} {xs : List V} {g : TG} {tb : TS} {D : Ends} {σ : St} {H : Hp} (Pv : Nat → St → Hp → Prop) (h0 : Pv 0 σ H) (hl : ∀ i σ H, i ≤ xs.length → Pv i σ H → SqL K H a xs)
  (hs : ∀ i x σ H, xs[i]? = some x → Pv i σ H → g x σ H fun σ2 H2 => tb { D with nx := Pv (i + 1), ct := Pv (i + 1), bk := D.nx } σ2 H2) (hd : ∀ σ H, Pv xs.length σ H → D.nx σ H) :
  ∃ W : Nat → Nat → St → Hp → Prop, (∃ m, W 0 m σ H) ∧ ∀ i m σ H, W i m σ H →
   ((Itl K a).stop i H ∧ D.nx σ H) ∨ ((Itl K a).go i H ∧ ∃ N : St → Hp → Prop, (∀ σ' H', N σ' H' → ∃ m', m' < m ∧ W (i + 1) m' σ' H') ∧ ∀ x H', (Itl K a).yld i H x H' → g x σ H' fun σ2 H2 => tb { D with nx := N, ct := N, bk := D.nx } σ2 H2) := by
 refine ⟨fun i m σ H => m = xs.length - i ∧ i ≤ xs.length ∧ Pv i σ H, ⟨xs.length, by simp, Nat.zero_le _, h0⟩, ?_⟩
 rintro i m σ H ⟨rfl, hi, p⟩
 have q := hl i σ H hi p
 by_cases hlt : i < xs.length
 ·refine .inr ⟨⟨xs, xs[i], q, by simp [hlt]⟩, Pv (i + 1), fun σ' H' p' => ⟨xs.length - (i + 1), by omega, rfl, hlt, p'⟩, fun x H' y => ?_⟩
  obtain ⟨e, y⟩ := y
  subst e
  exact hs i x σ _ (y xs q) p
 ·have e : i = xs.length := by omega
  subst e
  exact .inl ⟨⟨xs, q, Nat.le_refl _⟩, hd σ H p⟩
theorem for_tup {K : PySem.W.Frag} {a : Addr} {xs : List V} {g : TG} {tb : TS} {D : Ends} {σ : St} {H : Hp} (Pv : Nat → St → Hp → Prop) (h0 : Pv 0 σ H) (hl : ∀ i σ H, i ≤ xs.length → Pv i σ H → SqT K H a xs)
  (hs : ∀ i x σ H, xs[i]? = some x → Pv i σ H → g x σ H fun σ2 H2 => tb { D with nx := Pv (i + 1), ct := Pv (i + 1), bk := D.nx } σ2 H2) (hd : ∀ σ H, Pv xs.length σ H → D.nx σ H) :
  ∃ W : Nat → Nat → St → Hp → Prop, (∃ m, W 0 m σ H) ∧ ∀ i m σ H, W i m σ H →
   ((Itt K a).stop i H ∧ D.nx σ H) ∨ ((Itt K a).go i H ∧ ∃ N : St → Hp → Prop, (∀ σ' H', N σ' H' → ∃ m', m' < m ∧ W (i + 1) m' σ' H') ∧ ∀ x H', (Itt K a).yld i H x H' → g x σ H' fun σ2 H2 => tb { D with nx := N, ct := N, bk := D.nx } σ2 H2) := by
 refine ⟨fun i m σ H => m = xs.length - i ∧ i ≤ xs.length ∧ Pv i σ H, ⟨xs.length, by simp, Nat.zero_le _, h0⟩, ?_⟩
 rintro i m σ H ⟨rfl, hi, p⟩
 have q := hl i σ H hi p
 by_cases hlt : i < xs.length
 ·refine .inr ⟨⟨xs, xs[i], q, by simp [hlt]⟩, Pv (i + 1), fun σ' H' p' => ⟨xs.length - (i + 1), by omega, rfl, hlt, p'⟩, fun x H' y => ?_⟩
  obtain ⟨e, y⟩ := y
  subst e
  exact hs i x σ _ (y xs q) p
 ·have e : i = xs.length := by omega
  subst e
  exact .inl ⟨⟨xs, q, Nat.le_refl _⟩, hd σ H p⟩
theorem for_range {lo : Int} {n : Nat} {g : TG} {tb : TS} {D : Ends} {σ : St} {H : Hp} (Pv : Nat → St → Hp → Prop) (h0 : Pv 0 σ H)
  (hs : ∀ i σ H, i < n → Pv i σ H → g (.int (lo + i)) σ H fun σ2 H2 => tb { D with nx := Pv (i + 1), ct := Pv (i + 1), bk := D.nx } σ2 H2) (hd : ∀ σ H, Pv n σ H → D.nx σ H) :
  ∃ W : Nat → Nat → St → Hp → Prop, (∃ m, W 0 m σ H) ∧ ∀ i m σ H, W i m σ H →
   ((Itr lo n).stop i H ∧ D.nx σ H) ∨ ((Itr lo n).go i H ∧ ∃ N : St → Hp → Prop, (∀ σ' H', N σ' H' → ∃ m', m' < m ∧ W (i + 1) m' σ' H') ∧ ∀ x H', (Itr lo n).yld i H x H' → g x σ H' fun σ2 H2 => tb { D with nx := N, ct := N, bk := D.nx } σ2 H2) := by
 refine ⟨fun i m σ H => m = n - i ∧ i ≤ n ∧ Pv i σ H, ⟨n, by simp, Nat.zero_le _, h0⟩, ?_⟩
 rintro i m σ H ⟨rfl, hi, p⟩
 by_cases hlt : i < n
 ·refine .inr ⟨hlt, Pv (i + 1), fun σ' H' p' => ⟨n - (i + 1), by omega, rfl, hlt, p'⟩, fun x H' y => ?_⟩
  obtain ⟨e, y⟩ := y
  subst e y
  exact hs i σ _ hlt p
 ·have e : i = n := by omega
  subst e
  exact .inl ⟨Nat.le_refl _, hd σ H p⟩
theorem while_by {c : TT} {tb : TS} {D : Ends} {σ : St} {H : Hp} (Pv : St → Hp → Prop) (μ : St → Hp → Nat) (h0 : Pv σ H)
  (hs : ∀ σ H, Pv σ H → c σ H fun b H1 => if b = true then tb { D with nx := fun σ' H' => Pv σ' H' ∧ μ σ' H' < μ σ H, ct := fun σ' H' => Pv σ' H' ∧ μ σ' H' < μ σ H, bk := D.nx } σ H1 else D.nx σ H1)
  (mono : ∀ σ H Q Q', (∀ b H1, Q b H1 → Q' b H1) → c σ H Q → c σ H Q') : tWhile c tb D σ H := by
 refine ⟨fun m σ H => m = μ σ H ∧ Pv σ H, ⟨_, rfl, h0⟩, ?_⟩
 rintro m σ H ⟨rfl, p⟩
 refine mono σ H _ _ (fun b H1 q => ?_) (hs σ H p)
 cases b with
 | true => exact ⟨_, fun σ' H' ⟨p', l⟩ => ⟨_, l, rfl, p'⟩, q⟩
 | false => exact q
end L2
namespace L2
open PySem PySem.Spec PyProof.Rows
abbrev R2 := V → V → Hp → VK → Prop
def OpR (X : Cx) (f : Value → Value → Sem Value) (r : R2) : Prop :=
 ∀ (pins : List (Addr × Obj)) (s : Shared) (σ : St) (H : Hp) (x y : V) (v u : Value) (Q : VK), Inv X pins σ H s → RelV x v → RelV y u → r x y H Q →
  wpAny (model X.prog X.w) X.A (f v u) (EP X pins σ Q) X.xe s
def UnR (X : Cx) (f : Value → Sem Value) (r : V → Hp → VK → Prop) : Prop :=
 ∀ (pins : List (Addr × Obj)) (s : Shared) (σ : St) (H : Hp) (x : V) (v : Value) (Q : VK), Inv X pins σ H s → RelV x v → r x H Q →
  wpAny (model X.prog X.w) X.A (f v) (EP X pins σ Q) X.xe s
def CallR (X : Cx) (f : Value) (r : List V → Hp → VK → Prop) : Prop :=
 ∀ (pins : List (Addr × Obj)) (s : Shared) (σ : St) (H : Hp) (xs : List V) (us : List Value) (Q : VK), Inv X pins σ H s → Vals xs us → r xs H Q →
  wpAny (model X.prog X.w) X.A (call f us) (EP X pins σ Q) X.xe s
def TruR (X : Cx) (r : V → Hp → (Bool → Hp → Prop) → Prop) : Prop :=
 ∀ (pins : List (Addr × Obj)) (s : Shared) (σ : St) (H : Hp) (x : V) (v : Value) (Q : Bool → Hp → Prop), Inv X pins σ H s → RelV x v → r x H Q →
  wpAny (model X.prog X.w) X.A (truthy v) (TP X pins σ Q) X.xe s
def tOp (r : R2) (ta tb : TE) : TE := fun σ H Q => ta σ H fun x H1 => tb σ H1 fun y H2 => r x y H2 Q
def tUn (r : V → Hp → VK → Prop) (ta : TE) : TE := fun σ H Q => ta σ H fun x H1 => r x H1 Q
def rI (C : Int → Int → Prop) (g : Int → Int → V) : R2 := fun x y H Q => ∃ i j, x = .int i ∧ y = .int j ∧ C i j ∧ Q (g i j) H
def rI0 (g : Int → Int → V) : R2 := fun x y H Q => ∃ i j, x = .int i ∧ y = .int j ∧ Q (g i j) H
def rU (g : Int → V) : V → Hp → VK → Prop := fun x H Q => ∃ i, x = .int i ∧ Q (g i) H
section
variable {X : Cx} {a b c : Expr} {ta tb tc : TE} {pos : Pos}
theorem binT (ha : PE X a ta) (hb : PE X b tb) {pins : List (Addr × Obj)} {s : Shared} {σ : St} {H : Hp} {R : V → V → Hp → Prop} (I : Inv X pins σ H s)
  (h : ta σ H fun x H1 => tb σ H1 fun y H2 => R x y H2) {Q : Value → Shared → Prop} {f : Value → Value → Sem Value}
  (hf : ∀ v u s2 x y H2, Inv X pins σ H2 s2 → RelV x v → RelV y u → R x y H2 → wpAny (model X.prog X.w) X.A (f v u) Q X.xe s2) :
  wpAny (model X.prog X.w) X.A (eval a X.env) (fun v s₁ => wpAny (model X.prog X.w) X.A (eval b X.env) (fun u s₂ => wpAny (model X.prog X.w) X.A (f v u) Q X.xe s₂) X.xe s₁) X.xe s := by
 refine thn (ha pins s σ H _ I h) fun v s1 ⟨x, H1, I1, r1, q1⟩ => ?_
 refine thn (hb pins s1 σ H1 _ I1 q1) fun u s2 ⟨y, H2, I2, r2, q2⟩ => ?_
 exact hf v u s2 x y H2 I2 r1 r2 q2
theorem pe_op {op : Operator} {r : R2} (ho : OpR X (binaryOp op) r) (ha : PE X a ta) (hb : PE X b tb) : PE X (.BinOp a op b pos) (tOp r ta tb) := by
 intro pins s σ H Q I h
 exact wpAny_BinOp (binT ha hb I h fun v u s2 x y H2 I2 rx ry q => ho pins s2 σ H2 x y v u Q I2 rx ry q)
theorem pe_un {op : UnaryOp} {r : V → Hp → VK → Prop} (ho : UnR X (unaryOp op) r) (ha : PE X a ta) : PE X (.UnaryOp op a pos) (tUn r ta) := by
 intro pins s σ H Q I h
 exact UnaryOp_ (thn (ha pins s σ H _ I h) fun v s1 ⟨x, H1, I1, r1, q1⟩ => ho pins s1 σ H1 x v Q I1 r1 q1)
theorem opI {f : Value → Value → Sem Value} {C : Int → Int → Prop} {g : Int → Int → Int}
  (rule : ∀ (i j : Int) (t u : Tok) (s : Shared) (Q : Value → Shared → Prop) (E : Value → Shared → Prop), C i j → Q (.int (g i j) s.toks) { s with toks := s.toks + 1 } → wpAny (model X.prog X.w) X.A (f (.int i t) (.int j u)) Q E s) :
  OpR X f (rI C fun i j => .int (g i j)) := by
 intro pins s σ H x y v u Q I rx ry h
 obtain ⟨i, j, rfl, rfl, hc, q⟩ := h
 obtain ⟨t, rfl⟩ := rx
 obtain ⟨t', rfl⟩ := ry
 exact rule i j t t' s _ _ hc ⟨.int (g i j), H, I.tok _, ⟨_, rfl⟩, q⟩
theorem opI0 {f : Value → Value → Sem Value} {g : Int → Int → Int}
  (rule : ∀ (i j : Int) (t u : Tok) (s : Shared) (Q : Value → Shared → Prop) (E : Value → Shared → Prop), Q (.int (g i j) s.toks) { s with toks := s.toks + 1 } → wpAny (model X.prog X.w) X.A (f (.int i t) (.int j u)) Q E s) :
  OpR X f (rI0 fun i j => .int (g i j)) := by
 intro pins s σ H x y v u Q I rx ry h
 obtain ⟨i, j, rfl, rfl, q⟩ := h
 obtain ⟨t, rfl⟩ := rx
 obtain ⟨t', rfl⟩ := ry
 exact rule i j t t' s _ _ ⟨.int (g i j), H, I.tok _, ⟨_, rfl⟩, q⟩
theorem opB0 {f : Value → Value → Sem Value} {g : Int → Int → Bool}
  (rule : ∀ (i j : Int) (t u : Tok) (s : Shared) (Q : Value → Shared → Prop) (E : Value → Shared → Prop), Q (.bool (g i j)) s → wpAny (model X.prog X.w) X.A (f (.int i t) (.int j u)) Q E s) :
  OpR X f (rI0 fun i j => .bl (g i j)) := by
 intro pins s σ H x y v u Q I rx ry h
 obtain ⟨i, j, rfl, rfl, q⟩ := h
 obtain ⟨t, rfl⟩ := rx
 obtain ⟨t', rfl⟩ := ry
 exact rule i j t t' s _ _ ⟨.bl (g i j), H, I, rfl, q⟩
def CDiv (i j : Int) : Prop := 0 < j ∧ j < 1073741824
def CPow (i j : Int) : Prop := 0 ≤ j ∧ j ≤ 1000000 ∧ i.natAbs < 2 ^ 64
def CMul (i j : Int) : Prop := (-(2 ^ 64) < i ∧ i < 2 ^ 64) ∨ (-(2 ^ 64) < j ∧ j < 2 ^ 64)
theorem CMul.ok {i j : Int} (h : CMul i j) : IntMulOk i j := by
 rcases h with ⟨h1, h2⟩ | ⟨h1, h2⟩
 ·exact .of_left (intBits_le_64 h1 h2)
 ·exact .of_right (intBits_le_64 h1 h2)
theorem two_pow_nn (k : Nat) : (0 : Int) ≤ 2 ^ k := by
 rw [two_pow_cast]
 exact Int.natCast_nonneg _
theorem op_add : OpR X (binaryOp .Add) (rI0 fun i j => .int (i + j)) := opI0 fun _ _ _ _ _ _ _ q => add_int q
theorem op_sub : OpR X (binaryOp .Sub) (rI0 fun i j => .int (i - j)) := opI0 fun _ _ _ _ _ _ _ q => sub_int q
theorem op_mul : OpR X (binaryOp .Mult) (rI CMul fun i j => .int (i * j)) := opI fun _ _ _ _ _ _ _ hc q => mul_int q hc.ok
theorem op_fdiv : OpR X (binaryOp .FloorDiv) (rI CDiv fun i j => .int (i / j)) := opI fun i j _ _ _ _ _ hc q => by
 have h1 : (0 : Int) < j := hc.1
 have h2 : j < 1073741824 := hc.2
 exact floordiv_int (by omega) (by rw [Int.fdiv_eq_ediv_of_nonneg i (by omega)]; exact q) (.inl (PyProof.noPylong_small (by omega)))
theorem op_mod : OpR X (binaryOp .Mod) (rI (fun _ j => 0 < j) fun i j => .int (i % j)) := opI fun i j _ _ _ _ _ hc q => by
 have h1 : (0 : Int) < j := hc
 exact mod_int' (by omega) (by rw [Int.fmod_eq_emod_of_nonneg i (by omega)]; exact q)
theorem op_shl : OpR X (binaryOp .LShift) (rI CPow fun i j => .int (i * 2 ^ j.toNat)) := opI fun _ _ _ _ _ _ _ hc q => lshift_int_small hc.1 hc.2.1 hc.2.2 q
theorem op_shr : OpR X (binaryOp .RShift) (rI (fun _ j => 0 ≤ j) fun i j => .int (i / 2 ^ j.toNat)) := opI fun i j _ _ _ _ _ hc q =>
 rshift_int hc (by rw [Int.fdiv_eq_ediv_of_nonneg i (two_pow_nn _)]; exact q)
theorem op_and : OpR X (binaryOp .BitAnd) (rI0 fun i j => .int (Builtin.bitAnd i j)) := opI0 fun _ _ _ _ _ _ _ q => and_int q
theorem op_or : OpR X (binaryOp .BitOr) (rI0 fun i j => .int (Builtin.bitOr i j)) := opI0 fun _ _ _ _ _ _ _ q => or_int q
theorem op_xor : OpR X (binaryOp .BitXor) (rI0 fun i j => .int (Builtin.bitXor i j)) := opI0 fun _ _ _ _ _ _ _ q => xor_int q
theorem unI {f : Value → Sem Value} {g : Int → Int}
  (rule : ∀ (i : Int) (t : Tok) (s : Shared) (Q : Value → Shared → Prop) (E : Value → Shared → Prop), Q (.int (g i) s.toks) { s with toks := s.toks + 1 } → wpAny (model X.prog X.w) X.A (f (.int i t)) Q E s) :
  UnR X f (rU fun i => .int (g i)) := by
 intro pins s σ H x v Q I rx h
 obtain ⟨i, rfl, q⟩ := h
 obtain ⟨t, rfl⟩ := rx
 exact rule i t s _ _ ⟨.int (g i), H, I.tok _, ⟨_, rfl⟩, q⟩
theorem un_neg : UnR X (unaryOp .USub) (rU fun i => .int (-i)) := unI fun _ _ _ _ _ q => neg_int q
end
def scal : V → V → Bool
 | .non, .non => true | .non, .int _ => true | .int _, .non => true | .non, .bl _ => true | .bl _, .non => true | .non, .str _ => true | .str _, .non => true
 | .int _, .int _ => true | .bl _, .bl _ => true | .str _, .str _ => true | .byt _, .byt _ => true
 | .int _, .str _ => true | .str _, .int _ => true | .bl _, .str _ => true | .str _, .bl _ => true
 | _, _ => false
def rEq : R2 := fun x y H Q => scal x y = true ∧ Q (.bl (decide (x = y))) H
def rNe : R2 := fun x y H Q => scal x y = true ∧ Q (.bl (!decide (x = y))) H
theorem dec_int {i j : Int} : decide (V.int i = V.int j) = (i == j) := by
 rw [Bool.eq_iff_iff]
 simp
theorem dec_bl {i j : Bool} : decide (V.bl i = V.bl j) = (i == j) := by
 rw [Bool.eq_iff_iff]
 simp
theorem dec_str {i j : Str} : decide (V.str i = V.str j) = (i == j) := by
 rw [Bool.eq_iff_iff]
 simp
theorem dec_byt {i j : Array UInt8} : decide (V.byt i = V.byt j) = (i.toList == j.toList) := by
 rw [Bool.eq_iff_iff]
 cases i
 cases j
 simp
section
variable {X : Cx} {a b c : Expr} {ta tb tc : TE} {pos : Pos}
theorem fin_bl {pins : List (Addr × Obj)} {σ : St} {H : Hp} {s : Shared} {Q : VK} {k k' : Bool} (I : Inv X pins σ H s) (q : Q (.bl k) H) (e : k = k') : EP X pins σ Q (.bool k') s := by
 subst e
 exact ⟨.bl k, H, I, rfl, q⟩
theorem op_eq : OpR X (compareOp .Eq) rEq := by
 intro pins s σ H x y v u Q I rx ry h
 obtain ⟨hs, q⟩ := h
 cases x with
 | non =>
  cases rx
  cases y with
  | non => cases ry; exact PySem.EqNone.eq_none_none (fin_bl I q (by simp))
  | bl j => cases ry; exact PySem.EqNone.eq_none_bool (fin_bl I q (by simp))
  | int j => obtain ⟨t', rfl⟩ := ry; exact PySem.EqNone.eq_none_int (fin_bl I q (by simp))
  | str j => obtain ⟨t', rfl⟩ := ry; exact PySem.EqNone.eq_none_str (fin_bl I q (by simp))
  | _ => exact absurd (show false = true from hs) Bool.false_ne_true
 | bl i =>
  cases rx
  cases y with
  | non => cases ry; exact PySem.EqNone.eq_bool_none (fin_bl I q (by simp))
  | bl j => cases ry; exact eq_bool (fin_bl I q dec_bl)
  | str j => obtain ⟨t', rfl⟩ := ry; exact PySem.EqMixed.eq_bool_str (fin_bl I q (by simp))
  | _ => exact absurd (show false = true from hs) Bool.false_ne_true
 | int i =>
  obtain ⟨t, rfl⟩ := rx
  cases y with
  | non => cases ry; exact PySem.EqNone.eq_int_none (fin_bl I q (by simp))
  | int j => obtain ⟨t', rfl⟩ := ry; exact eq_int (fin_bl I q dec_int)
  | str j => obtain ⟨t', rfl⟩ := ry; exact PySem.EqMixed.eq_int_str (fin_bl I q (by simp))
  | _ => exact absurd (show false = true from hs) Bool.false_ne_true
 | str i =>
  obtain ⟨t, rfl⟩ := rx
  cases y with
  | non => cases ry; exact PySem.EqNone.eq_str_none (fin_bl I q (by simp))
  | bl j => cases ry; exact PySem.EqMixed.eq_str_bool (fin_bl I q (by simp))
  | int j => obtain ⟨t', rfl⟩ := ry; exact PySem.EqMixed.eq_str_int (fin_bl I q (by simp))
  | str j => obtain ⟨t', rfl⟩ := ry; exact eq_str (fin_bl I q dec_str)
  | _ => exact absurd (show false = true from hs) Bool.false_ne_true
 | byt i =>
  obtain ⟨t, rfl⟩ := rx
  cases y with
  | byt j => obtain ⟨t', rfl⟩ := ry; exact PySem.W.eq_bytes (fin_bl I q dec_byt)
  | _ => exact absurd (show false = true from hs) Bool.false_ne_true
 | _ => cases y <;> exact absurd (show false = true from hs) Bool.false_ne_true
theorem op_ne : OpR X (compareOp .NotEq) rNe := by
 intro pins s σ H x y v u Q I rx ry h
 obtain ⟨hs, q⟩ := h
 cases x with
 | non =>
  cases rx
  cases y with
  | non => cases ry; exact PySem.EqNone.ne_none_none (fin_bl I q (by simp))
  | bl j => cases ry; exact PySem.EqNone.ne_none_bool (fin_bl I q (by simp))
  | int j => obtain ⟨t', rfl⟩ := ry; exact PySem.EqNone.ne_none_int (fin_bl I q (by simp))
  | str j => obtain ⟨t', rfl⟩ := ry; exact PySem.EqNone.ne_none_str (fin_bl I q (by simp))
  | _ => exact absurd (show false = true from hs) Bool.false_ne_true
 | bl i =>
  cases rx
  cases y with
  | non => cases ry; exact PySem.EqNone.ne_bool_none (fin_bl I q (by simp))
  | bl j => cases ry; exact ne_bool (fin_bl I q (congrArg not dec_bl))
  | str j => obtain ⟨t', rfl⟩ := ry; exact PySem.EqMixed.ne_bool_str (fin_bl I q (by simp))
  | _ => exact absurd (show false = true from hs) Bool.false_ne_true
 | int i =>
  obtain ⟨t, rfl⟩ := rx
  cases y with
  | non => cases ry; exact PySem.EqNone.ne_int_none (fin_bl I q (by simp))
  | int j => obtain ⟨t', rfl⟩ := ry; exact ne_int (fin_bl I q (congrArg not dec_int))
  | str j => obtain ⟨t', rfl⟩ := ry; exact PySem.EqMixed.ne_int_str (fin_bl I q (by simp))
  | _ => exact absurd (show false = true from hs) Bool.false_ne_true
 | str i =>
  obtain ⟨t, rfl⟩ := rx
  cases y with
  | non => cases ry; exact PySem.EqNone.ne_str_none (fin_bl I q (by simp))
  | bl j => cases ry; exact PySem.EqMixed.ne_str_bool (fin_bl I q (by simp))
  | int j => obtain ⟨t', rfl⟩ := ry; exact PySem.EqMixed.ne_str_int (fin_bl I q (by simp))
  | str j => obtain ⟨t', rfl⟩ := ry; exact ne_str (fin_bl I q (congrArg not dec_str))
  | _ => exact absurd (show false = true from hs) Bool.false_ne_true
 | byt i =>
  obtain ⟨t, rfl⟩ := rx
  cases y with
  | byt j => obtain ⟨t', rfl⟩ := ry; exact PySem.W.ne_bytes (fin_bl I q (congrArg not dec_byt))
  | _ => exact absurd (show false = true from hs) Bool.false_ne_true
 | _ => cases y <;> exact absurd (show false = true from hs) Bool.false_ne_true
theorem op_lt : OpR X (compareOp .Lt) (rI0 fun i j => .bl (decide (i < j))) := opB0 fun _ _ _ _ _ _ _ q => lt_int q
theorem op_le : OpR X (compareOp .LtE) (rI0 fun i j => .bl (decide (i ≤ j))) := opB0 fun _ _ _ _ _ _ _ q => le_int q
theorem op_gt : OpR X (compareOp .Gt) (rI0 fun i j => .bl (decide (j < i))) := opB0 fun _ _ _ _ _ _ _ q => gt_int q
theorem op_ge : OpR X (compareOp .GtE) (rI0 fun i j => .bl (decide (j ≤ i))) := opB0 fun _ _ _ _ _ _ _ q => ge_int q
theorem op_isN : OpR X (compareOp .Is) (fun x y H Q => y = .non ∧ Q (.bl (decide (x = .non))) H) := by
 intro pins s σ H x y v u Q I rx ry h
 obtain ⟨rfl, q⟩ := h
 cases ry
 refine is_none_gen (fin_bl I q ?_)
 cases x <;> first
  | (cases rx; rfl)
  | (obtain ⟨t, rfl⟩ := rx; rfl)
theorem op_notN : OpR X (compareOp .IsNot) (fun x y H Q => y = .non ∧ Q (.bl (!decide (x = .non))) H) := by
 intro pins s σ H x y v u Q I rx ry h
 obtain ⟨rfl, q⟩ := h
 cases ry
 refine isnot_none_gen (fin_bl I q ?_)
 cases x <;> first
  | (cases rx; rfl)
  | (obtain ⟨t, rfl⟩ := rx; rfl)
theorem nomark (b : Expr) {op : CmpOp} (h : op ≠ .In := by decide) (h2 : op ≠ .NotIn := by decide) : behindInMarks op b = false := by
 have e1 : (op == CmpOp.In) = false := by cases op <;> first | rfl | exact absurd rfl h
 have e2 : (op == CmpOp.NotIn) = false := by cases op <;> first | rfl | exact absurd rfl h2
 cases b <;> simp [behindInMarks, e1, e2]
theorem pe_cmpR {op : CmpOp} {r : R2} (ho : OpR X (compareOp op) r) (ha : PE X a ta) (hb : PE X b tb) (hm : behindInMarks op b = false) : PE X (.Compare a [op] [b] pos) (tOp r ta tb) := by
 intro pins s σ H Q I h
 exact wpAny_Compare1 (binT ha hb I h fun v u s2 x y H2 I2 rx ry q => ho pins s2 σ H2 x y v u Q I2 rx ry q) hm
def tTest (t : TE) : TT := fun σ H Q => t σ H fun x H' => ∃ k, x = .bl k ∧ Q k H'
theorem pt_cmpR {op : CmpOp} {r : R2} (ho : OpR X (compareOp op) r) (ha : PE X a ta) (hb : PE X b tb) (hm : behindInMarks op b = false) : PT X (.Compare a [op] [b] pos) (tTest (tOp r ta tb)) := by
 intro pins s σ H Q I h
 refine wpAny_isTrue_Compare1 (thn (ha pins s σ H _ I h) fun v s1 ⟨x, H1, I1, r1, q1⟩ => thn (hb pins s1 σ H1 _ I1 q1) fun u s2 ⟨y, H2, I2, r2, q2⟩ =>
  thn (ho pins s2 σ H2 x y v u _ I2 r1 r2 q2) fun c s3 ⟨z, H3, I3, r3, k, e, q3⟩ => ?_) hm
 subst e
 cases r3
 exact wpAny_truthy_bool ⟨H3, I3, q3⟩
def tChain (r r' : R2) (ta tb tc : TE) : TE := fun σ H Q => ta σ H fun x H1 => tb σ H1 fun y H2 => r x y H2 fun z H3 => ∃ k, z = .bl k ∧
 (if k = true then tc σ H3 fun w' H4 => r' y w' H4 Q else Q (.bl false) H3)
theorem pe_chain {op op' : CmpOp} {r r' : R2} (ho : OpR X (compareOp op) r) (ho' : OpR X (compareOp op') r') (ha : PE X a ta) (hb : PE X b tb) (hc : PE X c tc)
  (hm : lastMarks [op, op'] [b, c] = false := by with_unfolding_all rfl) : PE X (.Compare a [op, op'] [b, c] pos) (tChain r r' ta tb tc) := by
 intro pins s σ H Q I h
 refine Compare_chain (thn (ha pins s σ H _ I h) fun v s1 ⟨x, H1, I1, r1, q1⟩ => chain_link (thn (hb pins s1 σ H1 _ I1 q1) fun u s2 ⟨y, H2, I2, r2, q2⟩ =>
  thn (ho pins s2 σ H2 x y v u _ I2 r1 r2 q2) fun d s3 ⟨z, H3, I3, r3, k, e, q3⟩ => ?_)) hm
 subst e
 cases r3
 refine wpAny_truthy_bool ?_
 cases k with
 | false => exact ite_ff ⟨.bl false, H3, I3, rfl, q3⟩
 | true => exact ite_tt (chain_last (thn (hc pins s3 σ H3 _ I3 q3) fun w' s4 ⟨z', H4, I4, r4, q4⟩ => ho' pins s4 σ H4 y z' u w' Q I4 r2 r4 q4))
theorem pt_chain {op op' : CmpOp} {r r' : R2} (ho : OpR X (compareOp op) r) (ho' : OpR X (compareOp op') r') (ha : PE X a ta) (hb : PE X b tb) (hc : PE X c tc)
  (hm : lastMarks [op, op'] [b, c] = false := by with_unfolding_all rfl) : PT X (.Compare a [op, op'] [b, c] pos) (tTest (tChain r r' ta tb tc)) := by
 intro pins s σ H Q I h
 refine isTrue_chain (thn (ha pins s σ H _ I h) fun v s1 ⟨x, H1, I1, r1, q1⟩ => test_link (thn (hb pins s1 σ H1 _ I1 q1) fun u s2 ⟨y, H2, I2, r2, q2⟩ =>
  thn (ho pins s2 σ H2 x y v u _ I2 r1 r2 q2) fun d s3 ⟨z, H3, I3, r3, k, e, q3⟩ => ?_)) hm
 subst e
 cases r3
 refine wpAny_truthy_bool ?_
 cases k with
 | false =>
  obtain ⟨k', e', q'⟩ := q3
  cases e'
  exact ite_ff ⟨H3, I3, q'⟩
 | true =>
  refine ite_tt (test_last (thn (hc pins s3 σ H3 _ I3 q3) fun w' s4 ⟨z', H4, I4, r4, q4⟩ => thn (ho' pins s4 σ H4 y z' u w' _ I4 r2 r4 q4) fun d' s5 ⟨z2, H5, I5, r5, k2, e2, q5⟩ => ?_))
  subst e2
  cases r5
  exact wpAny_truthy_bool ⟨H5, I5, q5⟩
def TruV (K : PySem.W.Frag) (x : V) (H : Hp) (k : Bool) : Prop :=
 match x with
 | .non => k = false
 | .bl b => k = b
 | .int i => k = (i != 0)
 | .str y => y.length ≤ sizeLine ∧ k = ((y.length : Int) != 0)
 | .byt y => y.size ≤ sizeLine ∧ k = ((y.size : Int) != 0)
 | .ref p => (∃ xs, SqL K H p xs ∧ k = !xs.isEmpty) ∨ (∃ xs, SqT K H p xs ∧ k = !xs.isEmpty) ∨ ∃ kvs, H p = some (.dK kvs) ∧ k = !kvs.isEmpty
 | _ => False
theorem isEmpty_kv {κ : Type} {kvs : List (κ × V)} {vs : List (κ × Value)} (r : KV kvs vs) : (!vs.isEmpty) = !kvs.isEmpty := by
 cases r <;> rfl
theorem isEmpty_of {xs : List V} {its : List Value} (r : Vals xs its) : (!its.toArray.isEmpty) = !xs.isEmpty := by
 cases r <;> simp
theorem line63 : (sizeLine : Nat) < 2 ^ 63 := by rw [sizeLine_eq]; decide
theorem tru_ok : TruR X (fun x H Q => ∃ k, TruV X.K x H k ∧ Q k H) := by
 intro pins s σ H x v Q I rx h
 obtain ⟨k, e, q⟩ := h
 have hl := line63
 have hs : sizeLine = 16777216 := sizeLine_eq
 cases x with
 | non =>
  cases rx
  have e' : k = false := e
  subst e'
  exact truthy_none ⟨H, I, q⟩
 | bl b =>
  cases rx
  have e' : k = b := e
  subst e'
  exact wpAny_truthy_bool ⟨H, I, q⟩
 | int i =>
  obtain ⟨t, rfl⟩ := rx
  have e' : k = (i != 0) := e
  subst e'
  exact PySem.P.truthy_int ⟨H, I, q⟩
 | str y =>
  obtain ⟨t, rfl⟩ := rx
  obtain ⟨hy, e'⟩ : y.length ≤ sizeLine ∧ k = ((y.length : Int) != 0) := e
  subst e'
  exact PySem.P.truthy_str (by omega) ⟨H, I.tok _, q⟩
 | byt y =>
  obtain ⟨t, rfl⟩ := rx
  obtain ⟨hy, e'⟩ : y.size ≤ sizeLine ∧ k = ((y.size : Int) != 0) := e
  subst e'
  exact PySem.W.truthy_bytes (by omega) ⟨H, I.tok _, q⟩
 | ref p =>
  cases rx
  have e' : (∃ xs, SqL X.K H p xs ∧ k = !xs.isEmpty) ∨ (∃ xs, SqT X.K H p xs ∧ k = !xs.isEmpty) ∨ ∃ kvs, H p = some (.dK kvs) ∧ k = !kvs.isEmpty := e
  rcases e' with ⟨xs, hx, e'⟩ | ⟨xs, hx, e'⟩ | ⟨kvs, hx, e'⟩
  ·subst e'
   obtain ⟨its, r, pl, hz⟩ := I.list hx
   have hlen := r.length
   exact wpAny_truthy_list pl.isList (by simp only [List.size_toArray]; omega) ⟨H, I.tok _, by rw [isEmpty_of r]; exact q⟩
  ·subst e'
   obtain ⟨its, r, pl, hz⟩ := I.tuple hx
   have hlen := r.length
   exact truthy_tuple pl (by simp only [List.size_toArray]; omega) ⟨H, I.tok _, by rw [isEmpty_of r]; exact q⟩
  ·subst e'
   obtain ⟨hz, hS, vs, r, m⟩ : kvs.length ≤ sizeLine ∧ (p == sysModules) = false ∧ ∃ vs, KV kvs vs ∧ s.heap.DictOf (mixKind X.prog X.w) p vs := I.hok p _ hx
   have hlen : kvs.length = vs.length := Paired.length r
   exact wpAny_truthy_dict hS m (by omega) ⟨H, I.tok _, by rw [isEmpty_kv r]; exact q⟩
 | _ => exact (show False from e).elim
theorem pt_truth (ha : PE X a ta) (he : ∀ whole, isTrue a X.env whole = (do let v ← whole; standAt a.pos; holding [v] (truthy v))) :
  PT X a (fun σ H Q => ta σ H fun x H' => ∃ k, TruV X.K x H' k ∧ Q k H') := by
 intro pins s σ H Q I h
 exact isTrue_plain (thn (ha pins s σ H _ I h) fun v s1 ⟨x, H1, I1, r1, q1⟩ => tru_ok pins s1 σ H1 x v Q I1 r1 q1) (he _)
theorem vals1 {x : V} {us : List Value} (r : Vals [x] us) : ∃ u, us = [u] ∧ RelV x u := by
 cases r with
 | cons r1 r2 => cases r2; exact ⟨_, rfl, r1⟩
theorem vals2 {x y : V} {us : List Value} (r : Vals [x, y] us) : ∃ u w', us = [u, w'] ∧ RelV x u ∧ RelV y w' := by
 cases r with
 | cons r1 r2 =>
  cases r2 with
  | cons r3 r4 => cases r4; exact ⟨_, _, rfl, r1, r3⟩
theorem call_min2 (hc : X.calm = true) : CallR X (.builtin "min") (fun xs H Q => ∃ i j, xs = [.int i, .int j] ∧ Q (.int (if j < i then j else i)) H) := by
 intro pins s σ H xs us Q I r h
 obtain ⟨i, j, rfl, q⟩ := h
 obtain ⟨u, w', rfl, ⟨t, rfl⟩, ⟨t', rfl⟩⟩ := vals2 r
 refine min_two_ints (I.ok.hd hc) fun h' tk k => ⟨_, H, I.kept k, ?_, q⟩
 by_cases hj : j < i
 ·rw [if_pos hj, if_pos hj]; exact ⟨_, rfl⟩
 ·rw [if_neg hj, if_neg hj]; exact ⟨_, rfl⟩
theorem call_str_int : CallR X (.type "str") (fun xs H Q => ∃ i, xs = [.int i] ∧ i.natAbs.log2 < 1920 ∧ Q (.str (toString i)) H) := by
 intro pins s σ H xs us Q I r h
 obtain ⟨i, rfl, hz, q⟩ := h
 obtain ⟨u, rfl, t, rfl⟩ := vals1 r
 exact PySem.P.str_of_int hz ⟨.str _, H, I.tok _, ⟨_, rfl⟩, q⟩
theorem call_ord : CallR X (.builtin "ord") (fun xs H Q => ∃ x, xs = [.str x] ∧ x.length = 1 ∧ Q (.int (x.cps.getD 0 0 : Nat)) H) := by
 intro pins s σ H xs us Q I r h
 obtain ⟨x, rfl, hz, q⟩ := h
 obtain ⟨u, rfl, t, rfl⟩ := vals1 r
 exact ord_of_one hz ⟨.int _, H, I.tok _, ⟨_, rfl⟩, q⟩
end
end L2
namespace L2
open PySem PySem.Spec PyProof.Rows
structure ObjM (h : Heap) (x dx C : Addr) (mA : Str → Option Value) : Prop where
 obj : h.get? x = some (PySem.W.instObj C dx)
 ns : h.Ns1 dx mA
 ne : dx ≠ x
theorem lookIn_ns {h : Heap} {dx : Addr} {mA : Str → Option Value} (n : h.Ns1 dx mA) : ∃ od, h.get? dx = some od ∧ ∀ name, PySem.W.lookIn name od = some (mA name) := by
 obtain ⟨o, es, ep, ho, hd, hk, _, hm⟩ := n
 refine ⟨o, ho, fun name => ?_⟩
 have e := hm name
 unfold nsFind findBy at e
 rw [← Array.find?_toList] at e
 unfold PySem.W.lookIn
 rw [hd]
 dsimp only
 split
 ·rename_i y q
  rw [q] at e
  exact congrArg some e
 ·rename_i q
  rw [q] at e
  have a : es.toList.any (·.refKey) = false := by
   rw [List.any_eq_false]
   intro y hy
   obtain ⟨z, t, hkey⟩ := hk y (Array.mem_toList_iff.mp hy)
   simp [DictEntry.refKey, hkey]
  have a' : ¬ es.toList.any (·.refKey) = true := by rw [a]; exact Bool.false_ne_true
  rw [if_neg a']
  exact congrArg some e
theorem ObjM.look {h : Heap} {x dx C : Addr} {mA : Str → Option Value} (I : ObjM h x dx C mA) : ∃ od, PySem.W.InstAt h x (PySem.W.instObj C dx) C (some od) ∧ ∀ name, PySem.W.lookIn name od = some (mA name) :=
 let ⟨od, ho, hl⟩ := lookIn_ns I.ns
 ⟨od, ⟨I.obj, rfl, rfl, ho⟩, hl⟩
section
variable {prog : Program} {w : World} {A : Around} {E : Value → Shared → Prop} {s : Shared} {K : PySem.W.Frag} {x dx C f : Addr} {mA : Str → Option Value} {name : Str} {v : Value}
theorem get_map {expr : Bool} {Q : Value → Shared → Prop} (X : K.In s.heap) (I : ObjM s.heap x dx C mA) (hg : PySem.W.plainGet K C name = true) (hh : PySem.W.hasDictIn K C = true)
  (ha : PySem.W.findIn K (.ref C) name = some none) (hv : mA name = some v) (hv' : PySem.W.handedIn v = true) (h : Q v { s with toks := s.toks + 1 }) :
  wpAny (model prog w) A (getAttr (.ref x) name expr) Q E s := by
 obtain ⟨od, J, hl⟩ := I.look
 exact PySem.W.get_value X J (PySem.W.plainGet_of hg).1 (PySem.W.findObj_own hh ha rfl (by rw [hl, hv])) hv' h
theorem get_meth {pl : Sem Bool} {Q : Value × List Value → Shared → Prop} (X : K.In s.heap) (I : ObjM s.heap x dx C mA) (hg : PySem.W.plainGet K C name = true)
  (hf : PySem.W.findIn K (.ref C) name = some (some (.ref f))) (ht : PySem.W.isFn K (.ref f) = true) (hv : mA name = none) (h : Q (.ref f, [.ref x]) s) :
  wpAny (model prog w) A (getMethod (.ref x) name pl) Q E s := by
 obtain ⟨od, J, hl⟩ := I.look
 exact PySem.W.method_fn X J (PySem.W.plainGet_of hg).1 (PySem.W.plainGet_of hg).2 hf (beq_iff_eq.mp ht) (by show (PySem.W.lookIn name od).map (·.isSome) = some false; rw [hl, hv]; rfl) h
theorem set_map {ns : List Str} {Q : Unit → Shared → Prop} (X : K.In s.heap) (I : ObjM s.heap x dx C mA)
  (hs : PySem.W.findIn K (.ref C) "__setattr__" = some (some (.builtin "object.__setattr__"))) (hp : PySem.W.plainOver K C = true) (ht : PySem.W.takerIn K C name = some none) (hh : PySem.W.hasDictIn K C = true)
  (hw : PySem.Within mA ns) (hsz : ns.length ≤ sizeLine)
  (h : ∀ h', ObjM h' x dx C (fun y => if y = name then some v else mA y) → Heap.SameBut dx s.heap h' → Q () { s with heap := h', toks := s.toks + 2 }) :
  wpAny (model prog w) A (setAttr (.ref x) name v) Q E s := by
 obtain ⟨od, J, hl⟩ := I.look
 refine PySem.W.set_plain X J hs (PySem.W.osa_open (s := { s with toks := s.toks + 1 }) (r := none) X J hp ht fun b => ?_)
 obtain ⟨cd, hc, hd'⟩ := PySem.W.any_some hh
 have hx : s.heap.get? x = some ⟨.ref C, some dx, .plain, #[]⟩ := I.obj
 refine wpAny_bind (wpAny_pure (wpAny_bind (wpAny_bind (wpAny_loadPart hx (wpAny_bind (PySem.W.Looks.here (s := { s with toks := s.toks + 1 }) (PySem.W.looks_clsIn X hc) ?_))))))
 rw [hd']
 refine wpAny_pure (a := some dx) (wpAny_bind (wpAny_pure (wpAny_bind ?_)))
 refine wpAny_nsSet1 (s := { s with toks := s.toks + 1 }) I.ns fun h' hn2 hs2 => ?_
 obtain ⟨oD, esD, epD, hoD, hdD, hcD⟩ := hn2.count (PySem.Within.cons name v hw)
 refine wpAny_bind (wpAny_lookBehind hoD (by rw [hdD]; exact pastItsLine_dict (Nat.le_trans hcD (by rw [List.length_cons]; omega))) ?_)
 exact wpAny_pure (h _ ⟨(hs2.2 _ (Ne.symm I.ne)).trans I.obj, hn2, I.ne⟩ hs2)
theorem make_map {R : Result → Shared → Prop} {vs : List Value} {kw : List (Str × Value)} (X : K.In s.heap) (hm : PySem.W.makesIn K C = true)
  (hi : PySem.W.findIn K (.ref C) "__init__" = some (some (.ref f))) (hf : PySem.W.typeIn K (.ref f) = some (.type "function"))
  (h : codeAny (model prog w) (A.under (.builtin "type.__call__" ⟨.ref C :: vs, kw⟩)) (.call (.ref f) ⟨.ref (s.heap.objs.size + 1) :: vs, kw⟩) (PySem.W.InitBack (s.heap.objs.size + 1) R)
   { s with heap := (s.heap.push PySem.W.emptyDict).push (PySem.W.instObj C s.heap.objs.size) }) :
  codeAny (model prog w) A (.call (.ref C) ⟨vs, kw⟩) R s := by
 obtain ⟨hh, g, d, t, os⟩ := s
 exact PySem.W.make_core (PySem.W.makes_of X hm) (PySem.W.looks_findIn X hi) (fun self => PySem.W.bind_fn X self hf) (.inl rfl) h
end
def putF (f : Str) (v : V) : List (Str × V) → List (Str × V)
 | [] => [(f, v)]
 | (g, x) :: r => if g = f then (g, v) :: r else (g, x) :: putF f v r
theorem lookup_putF (f g : Str) (v : V) : ∀ fs : List (Str × V), (putF f v fs).lookup g = if g = f then some v else fs.lookup g
 | [] => by
  show List.lookup g [(f, v)] = _
  by_cases h : g = f
  ·have hb : (g == f) = true := beq_iff_eq.mpr h
   simp only [List.lookup, hb, if_pos h]
  ·have hb : (g == f) = false := beq_eq_false_iff_ne.mpr h
   simp only [List.lookup, hb, if_neg h]
 | (k, x) :: r => by
  have ih := lookup_putF f g v r
  rw [show putF f v ((k, x) :: r) = (if k = f then (k, v) :: r else (k, x) :: putF f v r) from rfl]
  by_cases hk : k = f
  ·rw [if_pos hk]
   by_cases h : g = k
   ·have hb : (g == k) = true := beq_iff_eq.mpr h
    simp only [List.lookup, hb, if_pos (h.trans hk)]
   ·have hb : (g == k) = false := beq_eq_false_iff_ne.mpr h
    simp only [List.lookup, hb, if_neg (fun e : g = f => h (e.trans hk.symm))]
  ·rw [if_neg hk]
   by_cases h : g = k
   ·have hb : (g == k) = true := beq_iff_eq.mpr h
    simp only [List.lookup, hb, if_neg (fun e : g = f => hk (h.symm.trans e))]
   ·have hb : (g == k) = false := beq_eq_false_iff_ne.mpr h
    simp only [List.lookup, hb]
    exact ih
theorem keys_putF (f : Str) (v : V) : ∀ fs : List (Str × V), f ∈ (putF f v fs).map (·.1) ∧ ∀ g, g ∈ fs.map (·.1) → g ∈ (putF f v fs).map (·.1)
 | [] => ⟨by simp [putF], fun g h => by simp at h⟩
 | (k, x) :: r => by
  obtain ⟨i1, i2⟩ := keys_putF f v r
  rw [show putF f v ((k, x) :: r) = (if k = f then (k, v) :: r else (k, x) :: putF f v r) from rfl]
  by_cases hk : k = f
  ·rw [if_pos hk]
   subst hk
   exact ⟨by simp, fun g h => by simpa using h⟩
  ·rw [if_neg hk]
   refine ⟨?_, fun g h => ?_⟩
   ·rw [List.map_cons]
    exact List.mem_cons_of_mem _ i1
   ·rw [List.map_cons] at h ⊢
    rcases List.mem_cons.mp h with e | e
    ·exact List.mem_cons.mpr (.inl e)
    ·exact List.mem_cons_of_mem _ (i2 g e)
theorem length_putF (f : Str) (v : V) : ∀ fs : List (Str × V), (putF f v fs).length ≤ fs.length + 1
 | [] => by simp [putF]
 | (k, x) :: r => by
  have ih := length_putF f v r
  rw [show putF f v ((k, x) :: r) = (if k = f then (k, v) :: r else (k, x) :: putF f v r) from rfl]
  by_cases hk : k = f
  ·rw [if_pos hk, List.length_cons, List.length_cons]; omega
  ·rw [if_neg hk, List.length_cons, List.length_cons]; omega
theorem RelO.some_of {v : V} {o : Option Value} (r : RelO (some v) o) : ∃ u, o = some u ∧ RelV v u := by
 cases o with
 | none => exact (show False from r).elim
 | some u => exact ⟨u, rfl, r⟩
theorem RelO.none_of {o : Option Value} (r : RelO none o) : o = none := by
 cases o with
 | none => rfl
 | some u => exact (show False from r).elim
theorem handed_of {v : V} {u : Value} (r : RelV v u) : PySem.W.handedIn u = true := by
 cases v with
 | non => cases (show u = Value.none from r); rfl
 | bl b => cases (show u = Value.bool b from r); rfl
 | int i => obtain ⟨t, e⟩ := (show ∃ t, u = Value.int i t from r); cases e; rfl
 | str x => obtain ⟨t, e⟩ := (show ∃ t, u = Value.str x t from r); cases e; rfl
 | byt b => obtain ⟨t, e⟩ := (show ∃ t, u = Value.bytes b t from r); cases e; rfl
 | flt b => obtain ⟨t, e⟩ := (show ∃ t, u = Value.float b t from r); cases e; rfl
 | ref a => cases (show u = Value.ref a from r); rfl
 | ty n => cases (show u = Value.type n from r); rfl
section
variable {P : Program} {w : World} {H H' : Hp} {h h' : Heap} {a C dx : Addr} {fs fs' : List (Str × V)}
theorem ins_get (hok : HOk P w H h) (e : H a = some (.ins C dx fs)) : ∃ mA, ObjM h a dx C mA ∧ (∀ f, RelO (fs.lookup f) (mA f)) ∧ PySem.Within mA (fs.map (·.1)) ∧ fs.length ≤ 1000 ∧ H dx = some (.own a) := by
 obtain ⟨d, z, ne, ob, mA, n, r, q⟩ := (show ObjOk P w H h a (.ins C dx fs) from hok a _ e)
 exact ⟨mA, ⟨ob, n, ne⟩, r, q, z, d⟩
end
structure Cls (K : PySem.W.Frag) (C : Addr) : Prop where
 pg : PySem.W.plainGet K C Str.empty = true
 hd : PySem.W.hasDictIn K C = true
 po : PySem.W.plainOver K C = true
 sa : PySem.W.findIn K (.ref C) "__setattr__" = some (some (.builtin "object.__setattr__"))
theorem Cls.get {K : PySem.W.Frag} {C : Addr} (c : Cls K C) (f : Str) : PySem.W.plainGet K C f = true := c.pg
def NoAttr (K : PySem.W.Frag) (C : Addr) (f : Str) : Prop := PySem.W.findIn K (.ref C) f = some none
theorem NoAttr.taker {K : PySem.W.Frag} {C : Addr} {f : Str} (n : NoAttr K C f) : PySem.W.takerIn K C f = some none := by
 unfold PySem.W.takerIn
 rw [show PySem.W.findIn K (.ref C) f = some none from n]
 rfl
structure Meth (K : PySem.W.Frag) (C : Addr) (m : Str) (f : Addr) : Prop where
 at_ : PySem.W.findIn K (.ref C) m = some (some (.ref f))
 fn : PySem.W.isFn K (.ref f) = true
 kp : PySem.W.keepIn K (.ref f) = true
section
variable {X : Cx} {pins : List (Addr × Obj)} {σ : St} {H : Hp} {s : Shared} {a C dx : Addr} {fs : List (Str × V)} {f : Str} {v : V} {A : Around} {E : Value → Shared → Prop}
theorem getattr_ok {b : Bool} {Q : Value → Shared → Prop} (I : Inv X pins σ H s) (e : H a = some (.ins C dx fs)) (c : Cls X.K C) (n : NoAttr X.K C f) (l : fs.lookup f = some v)
  (h : ∀ u s', Inv X pins σ H s' → RelV v u → Q u s') : wpAny (model X.prog X.w) A (getAttr (.ref a) f b) Q E s := by
 obtain ⟨mA, O, r, _, _, _⟩ := ins_get I.hok e
 obtain ⟨u, hu, ru⟩ := RelO.some_of (v := v) (o := mA f) (by rw [← l]; exact r f)
 exact get_map I.kIn O (c.get f) c.hd n hu (handed_of ru) (h u _ (I.tok _) ru)
theorem getmeth_ok {m : Str} {g : Addr} {pl : Sem Bool} {Q : Value × List Value → Shared → Prop} (I : Inv X pins σ H s) (e : H a = some (.ins C dx fs)) (c : Cls X.K C) (k : Meth X.K C m g) (l : fs.lookup m = none)
  (h : Q (.ref g, [.ref a]) s) : wpAny (model X.prog X.w) A (getMethod (.ref a) m pl) Q E s := by
 obtain ⟨mA, O, r, _, _, _⟩ := ins_get I.hok e
 have hn : mA m = none := RelO.none_of (by rw [← l]; exact r m)
 exact get_meth I.kIn O (c.get m) k.at_ k.fn hn h
theorem setattr_ok {y : V} {u : Value} {Q : Unit → Shared → Prop} (I : Inv X pins σ H s) (e : H a = some (.ins C dx fs)) (c : Cls X.K C) (n : NoAttr X.K C f) (hl : fs.length < 1000) (ry : RelV y u)
  (h : ∀ s', Inv X pins σ (upd H a (.ins C dx (putF f y fs))) s' → Q () s') : wpAny (model X.prog X.w) A (setAttr (.ref a) f u) Q E s := by
 obtain ⟨mA, O, r, wi, _, ho⟩ := ins_get I.hok e
 have hz : (fs.map (·.1)).length ≤ sizeLine := by rw [List.length_map, sizeLine_eq]; omega
 refine set_map I.kIn O c.sa c.po n.taker c.hd wi hz fun h' O' sb => h _ ?_
 have hd : ∃ o, h'.get? dx = some o := let ⟨o, _, _, e', _⟩ := O'.ns; ⟨o, e'⟩
 refine I.write (x := a) (e := dx) (by rw [e]; exact True.intro) (.inr ho) (fun b q hb z => (sb.2 b hb).trans z) hd ?_
 refine ⟨by rw [upd_ne O.ne]; exact ho, ?_, O.ne, O'.obj, _, O'.ns, fun g => ?_, fun g hg => ?_⟩
 ·have := length_putF f y fs; omega
 ·show RelO ((putF f y fs).lookup g) (if g = f then some u else mA g)
  rw [lookup_putF]
  by_cases q : g = f
  ·rw [if_pos q, if_pos q]; exact ry
  ·rw [if_neg q, if_neg q]; exact r g
 ·by_cases q : g = f
  ·rw [q]; exact (keys_putF f y fs).1
  ·refine (keys_putF f y fs).2 g (wi g fun z => hg ?_)
   show (if g = f then some u else mA g) = none
   rw [if_neg q]; exact z
theorem Inv.made (I : Inv X pins σ H s) : Inv X pins σ (upd (upd H s.heap.objs.size (.own (s.heap.objs.size + 1))) (s.heap.objs.size + 1) (.ins C s.heap.objs.size []))
  { s with heap := (s.heap.push PySem.W.emptyDict).push (PySem.W.instObj C s.heap.objs.size) } := by
 have e1 : (s.heap.push PySem.W.emptyDict).get? s.heap.objs.size = some PySem.W.emptyDict := Heap.get?_push_size s.heap rfl
 have e2 : ((s.heap.push PySem.W.emptyDict).push (PySem.W.instObj C s.heap.objs.size)).get? (s.heap.objs.size + 1) = some (PySem.W.instObj C s.heap.objs.size) := by
  have := Heap.get?_push_size (s.heap.push PySem.W.emptyDict) (o := PySem.W.instObj C s.heap.objs.size) rfl
  rwa [Heap.size_push] at this
 have e3 : (s.heap.push PySem.W.emptyDict).Ns s.heap.objs.size (fun _ => none) := ⟨PySem.W.emptyDict, #[], _, e1, rfl, (fun e he => absurd he (by simp)), fun _ => rfl⟩
 have I1 := I.laid (a := s.heap.objs.size) (o := .own (s.heap.objs.size + 1)) (h' := s.heap.push PySem.W.emptyDict) (t' := s.toks) (fun b u q => Heap.get?_push_of_some _ q) (Nat.le_refl _) ⟨_, e1⟩
 refine I1.laid (a := s.heap.objs.size + 1) (o := .ins C s.heap.objs.size []) (t' := s.toks) (fun b u q => Heap.get?_push_of_some _ q) (Nat.le_of_eq (Heap.size_push _ _)) ?_
 have ne : s.heap.objs.size ≠ s.heap.objs.size + 1 := Nat.ne_of_lt (Nat.lt_succ_self _)
 refine ⟨by rw [upd_ne ne, upd_same], Nat.zero_le _, ne, e2, fun _ => none, (Heap.Ns1.of_empty e3).at fun o q => Heap.get?_push_of_some _ q, fun _ => True.intro, fun y hy => absurd rfl hy⟩
theorem attr_of {prog : Program} {w : World} {env : Env} {e : Expr} {f : Str} {pos : Pos} {s : Shared} {Q : Value → Shared → Prop} (hb : attributeBase e f env (eval e env) = eval e env)
  (h : wpAny (model prog w) A (eval e env) (fun o s₁ => wpAny (model prog w) A (getAttr o f true) Q E s₁) E s) : wpAny (model prog w) A (eval (.Attribute e f pos) env) Q E s :=
 Attribute_any_ h (by rw [arm_eval_Attribute, hb])
end
def tFld (K : PySem.W.Frag) (ta : TE) (f : Str) : TE := fun σ H Q => ta σ H fun x H1 => ∃ a C dx fs v, x = .ref a ∧ H1 a = some (.ins C dx fs) ∧ Cls K C ∧ NoAttr K C f ∧ fs.lookup f = some v ∧ Q v H1
def sFld (K : PySem.W.Frag) (ta tv : TE) (f : Str) : TS := fun D σ H => tv σ H fun y H1 => ta σ H1 fun x H2 => ∃ a C dx fs, x = .ref a ∧ H2 a = some (.ins C dx fs) ∧ Cls K C ∧ NoAttr K C f ∧ fs.length < 1000 ∧
 D.nx σ (upd H2 a (.ins C dx (putF f y fs)))
def InOp (X : Cx) (op : Operator) (rd : V → V → Hp → VK → Prop) : Prop :=
 ∀ (pins : List (Addr × Obj)) (s : Shared) (σ : St) (H : Hp) (x y : V) (u v : Value) (Q : VK), Inv X pins σ H s → RelV x u → RelV y v → rd x y H Q → wpAny (model X.prog X.w) X.A (inplaceOp op u v) (EP X pins σ Q) X.xe s
def sFldAug (K : PySem.W.Frag) (ta tv : TE) (rd : V → V → Hp → VK → Prop) (f : Str) : TS := fun D σ H => ta σ H fun x H1 => ∃ a C dx fs v, x = .ref a ∧ H1 a = some (.ins C dx fs) ∧ Cls K C ∧ NoAttr K C f ∧ fs.lookup f = some v ∧
 tv σ H1 fun y H2 => rd v y H2 fun z H3 => ∃ dx' fs', H3 a = some (.ins C dx' fs') ∧ fs'.length < 1000 ∧ D.nx σ (upd H3 a (.ins C dx' (putF f z fs')))
section
variable {X : Cx} {o e value : Expr} {f : Str} {pos pos' tpos : Pos} {ta tv : TE}
theorem pe_fld (he : PE X e ta) (hb : attributeBase e f X.env (eval e X.env) = eval e X.env) : PE X (.Attribute e f pos) (tFld X.K ta f) := by
 intro pins s σ H Q I h
 refine attr_of hb (thn (he pins s σ H _ I h) fun u s1 ⟨x, H1, I1, rx, a, C, dx, fs, v, ex, ea, c, n, l, q⟩ => ?_)
 subst ex
 obtain rfl : u = Value.ref a := rx
 exact getattr_ok I1 ea c n l fun u' s2 I2 ru => ⟨v, H1, I2, ru, q⟩
theorem ps_fld (ha : PE X o ta) (hv : PE X value tv) (hs : swapsWith value (some (.Attribute o f pos')) pos.line X.env = pure false) : PS X (.Assign [.Attribute o f pos'] value pos) (sFld X.K ta tv f) := by
 intro pins s σ H D I h
 refine plainObj_wpAny_Assign_Attribute (thn (hv pins s σ H _ I h) fun u s1 ⟨y, H1, I1, ry, q⟩ => thn (ha pins s1 σ H1 _ I1 q) fun ov s2 ⟨x, H2, I2, rx, a, C, dx, fs, ex, ea, c, n, l, q2⟩ => ?_) hs
 subst ex
 obtain rfl : ov = Value.ref a := rx
 exact setattr_ok I2 ea c n l ry fun s3 I3 => ⟨σ, _, I3, q2⟩
theorem ps_fldaug {op : Operator} {rd : V → V → Hp → VK → Prop} (ha : PE X o ta) (hv : PE X value tv) (hop : InOp X op rd) : PS X (.AugAssign (.Attribute o f tpos) op value pos) (sFldAug X.K ta tv rd f) := by
 intro pins s σ H D I h
 refine wpAny_AugAssign_AttributeAny (thn (ha pins s σ H _ I h) fun ov s1 ⟨x, H1, I1, rx, a, C, dx, fs, v, ex, ea, c, n, l, q⟩ => ?_)
 subst ex
 obtain rfl : ov = Value.ref a := rx
 refine getattr_ok I1 ea c n l fun u s2 I2 ru => thn (hv pins s2 σ H1 _ I2 q) fun w3 s3 ⟨y, H2, I3, ry, q3⟩ => thn (hop pins s3 σ H2 v y u w3 _ I3 ru ry q3) fun w4 s4 ⟨z, H3, I4, rz, dx', fs', ea', l', q4⟩ => ?_
 exact setattr_ok I4 ea' c n l' rz fun s5 I5 => ⟨σ, _, I5, q4⟩
def rAdd : V → V → Hp → VK → Prop := fun x y H Q => ∃ i j, x = .int i ∧ y = .int j ∧ Q (.int (i + j)) H
theorem in_add : InOp X .Add rAdd := by
 rintro pins s σ H x y u v Q I rx ry ⟨i, j, rfl, rfl, q⟩
 obtain ⟨t, rfl⟩ := (show ∃ t, u = Value.int i t from rx)
 obtain ⟨t', rfl⟩ := (show ∃ t', v = Value.int j t' from ry)
 exact PyProof.Rows.iadd_int ⟨.int (i + j), H, I.tok _, ⟨_, rfl⟩, q⟩
theorem methcall_of {pl : Sem Bool} {m : Str} {apos : Pos} {args : List Expr} {pins : List (Addr × Obj)} {s : Shared} {σ : St} {H : Hp} {Q : Value → Shared → Prop} {te : TE} (he : PE X e te) (I : Inv X pins σ H s)
  (h : te σ H fun x H1 => ∃ a C dx fs g, x = .ref a ∧ H1 a = some (.ins C dx fs) ∧ Cls X.K C ∧ Meth X.K C m g ∧ fs.lookup m = none ∧
   ∀ s1, Inv X pins σ H1 s1 → wpAny (model X.prog X.w) X.A (callWith pos (.ref g) [.ref a] (backTo pos (starEach args X.env)) (backToKw pos (keywordEach [] X.env))) Q X.xe s1)
  (ht : eval (.Call (.Attribute e m apos) args [] pos) X.env = (do
   let ov ← eval e X.env
   standAt apos.atName
   let (f, first) ← holding [ov] (getMethod ov m pl)
   callWith pos f first (backTo pos (starEach args X.env)) (backToKw pos (keywordEach [] X.env)))) :
  wpAny (model X.prog X.w) X.A (eval (.Call (.Attribute e m apos) args [] pos) X.env) Q X.xe s := by
 refine PySem.W.methodCall_KW (pl := pl) (thn (he pins s σ H _ I h) fun u s1 ⟨x, H1, I1, rx, a, C, dx, fs, g, ex, ea, c, k, l, q⟩ => ?_) ht
 subst ex
 obtain rfl : u = Value.ref a := rx
 exact getmeth_ok I1 ea c k l (q s1 I1)
end
section
variable {X : Cx} {pins : List (Addr × Obj)} {σ : St} {H : Hp} {s : Shared} {A : Around} {E : Value → Shared → Prop} {Q : Value → Shared → Prop} {c : Value} {b : Bool}
end
end L2
namespace L2
open PySem PySem.Spec PyProof.Rows
structure Room (k : Nat) (A : Around) : Prop where
 hd : A.handled = none
 dp : A.depth + 3 * k + 5 < recursionLimit
 un : A.units + 16 * k + 200 < cLine
theorem Room.mono {j k : Nat} {A : Around} (r : Room k A) (h : j ≤ k) : Room j A := ⟨r.hd, by have := r.dp; omega, by have := r.un; omega⟩
theorem Room.deeper {k : Nat} {A : Around} (r : Room (k + 1) A) (env : Env) : Room k (A.deeper env) :=
 ⟨r.hd, by have := r.dp; show A.depth + 1 + 3 * k + 5 < _; omega, by have := r.un; show A.units + 3 + 16 * k + 200 < _; omega⟩
theorem make_depth {A : Around} {C : Addr} {us : List Value} {kw : List (Str × Value)} : (A.under (.builtin "type.__call__" ⟨.ref C :: us, kw⟩)).depth = A.depth + 1 := by
 first | rfl | simp [Around.under, Code.weight, Code.isCreation, Code.isGuard, Code.isCaller, Code.frames, Code.isFrame, guardIds]
theorem make_units {A : Around} {C : Addr} {us : List Value} {kw : List (Str × Value)} : (A.under (.builtin "type.__call__" ⟨.ref C :: us, kw⟩)).units = A.units + 1 := by
 first | rfl | simp [Around.under, Code.cUnits, Code.frames, Code.isFrame]
theorem Room.make {k : Nat} {A : Around} (r : Room (k + 1) A) (C : Addr) (us : List Value) (kw : List (Str × Value)) : Room k (A.under (.builtin "type.__call__" ⟨.ref C :: us, kw⟩)) :=
 ⟨r.hd, by have := r.dp; rw [make_depth]; omega, by have := r.un; rw [make_units]; omega⟩
theorem Room.depth {k : Nat} {A : Around} (r : Room k A) : A.depth < recursionLimit := by have := r.dp; omega
theorem Room.units {k : Nat} {A : Around} (r : Room k A) : A.units + 64 < cLine := by have := r.un; omega
def tNil : TA := fun _ H Q => Q [] H
def tCons (ta : TE) (tr : TA) : TA := fun σ H Q => ta σ H fun x H1 => tr σ H1 fun xs H2 => Q (x :: xs) H2
section
variable {X : Cx} {e : Expr} {es : List Expr} {te : TE} {t : TA} {pos : Pos}
theorem pa_nil : PA X [] tNil := fun _ _ _ _ H Q I h => Calls.spliced_nil ⟨[], H, I, .nil, h⟩
theorem pa_cons (ha : PE X e te) (hr : PA X es t) (hs : starEach (e :: es) X.env = (false, eval e X.env) :: starEach es X.env := by rfl) : PA X (e :: es) (tCons te t) := by
 intro pos pins s σ H Q I h
 rw [hs]
 show wpAny _ _ (spliced ((false, eval e X.env) :: backTo pos (starEach es X.env))) _ _ s
 refine Calls.spliced_cons (thn (ha pins s σ H _ I h) fun u s1 ⟨x, H1, I1, r1, q1⟩ => ?_)
 exact thn (hr pos pins s1 σ H1 _ I1 q1) fun us s2 ⟨xs, H2, I2, r2, q2⟩ => ⟨x :: xs, H2, I2, .cons r1 r2, q2⟩
def tTup (t : TA) : TE := fun σ H Q => t σ H fun xs H1 => xs.length ≤ sizeLine ∧ ∀ p, H1 p = none → Q (.ref p) (upd H1 p (.tup xs))
def tLst (t : TA) : TE := fun σ H Q => t σ H fun xs H1 => xs.length ≤ sizeLine ∧ ∀ p, H1 p = none → Q (.ref p) (upd H1 p (.lst xs))
theorem pe_tup {x1} (h : PA X es t) : PE X (.Tuple es x1 pos) (tTup t) := by
 intro pins s σ H Q I hq
 refine wpAny_Tuple_spliced (thn (h pos pins s σ H _ I hq) fun us s1 ⟨xs, H1, I1, r, z, q⟩ => ⟨by rw [← r.length]; exact z, ?_⟩)
 have hf : H1 s1.heap.objs.size = none := I1.hok.fresh (Nat.le_refl _)
 refine ⟨.ref s1.heap.objs.size, upd H1 s1.heap.objs.size (.tup xs), I1.laid (t' := s1.toks) (fun b u e => Heap.get?_push_of_some _ e) (Nat.le_refl _) ?_, rfl, q _ hf⟩
 exact ⟨z, us, r, ⟨_, Heap.get?_push_size _ rfl, rfl, _, rfl⟩⟩
theorem pe_lst (h : PA X es t) : PE X (.List es pos) (tLst t) := by
 intro pins s σ H Q I hq
 refine wpAny_List_spliced (thn (h pos pins s σ H _ I hq) fun us s1 ⟨xs, H1, I1, r, z, q⟩ => ⟨by rw [← r.length]; exact z, ?_⟩)
 have hf : H1 s1.heap.objs.size = none := I1.hok.fresh (Nat.le_refl _)
 refine ⟨.ref s1.heap.objs.size, upd H1 s1.heap.objs.size (.lst xs), I1.laid (t' := s1.toks) (fun b u e => Heap.get?_push_of_some _ e) (Nat.le_refl _) ?_, rfl, q _ hf⟩
 exact ⟨z, us, 0, r, Heap.get?_push_size _ rfl⟩
end
abbrev Sp := List V → Hp → VK → XK → Prop
abbrev CXT := List Env → Hp → Shared → XK → Value → Shared → Prop
structure Env0 (P : Program) (w : World) (K : PySem.W.Frag) (mg : Str → Option Value) (base : Heap) (A : Around) (outer : List Env) (s : Shared) (H : Hp) : Prop where
 frames : A.frames = some outer
 mod : Mod K mg base
 bs : ∀ b o, base.get? b = some o → s.heap.get? b = some o ∧ H b = none
 bsz : base.objs.size ≤ s.heap.objs.size
 funs : s.heap.FunFrames base outer
 frf : ∀ b ∈ frs outer, H b = none
 hok : HOk P w H s.heap
 bare : AllBare s.gens
def CE (outer : List Env) (P : Program) (w : World) (H : Hp) (s : Shared) (Q : VK) (u : Value) (s' : Shared) : Prop :=
 ∃ v H', s'.os = s.os ∧ AllBare s'.gens ∧ Un (frs outer) [] H H' s.heap s'.heap ∧ HOk P w H' s'.heap ∧ RelV v u ∧ Q v H'
def CR (CX : CXT) (outer : List Env) (P : Program) (w : World) (H : Hp) (s : Shared) (Q : VK) (E : XK) (r : Result) (s' : Shared) : Prop :=
 match r with
 | .ok (.ret u) => CE outer P w H s Q u s'
 | .ok _ => False
 | .error e => CX outer H s E e s'
structure FnOk (P : Program) (w : World) (K : PySem.W.Frag) (mg : Str → Option Value) (base : Heap) (CX : CXT) (k : Nat) (f : Addr) (fd : FuncData) (ps : List Str) (sp : Sp) : Prop where
 len : ∀ vs H Q E, sp vs H Q E → vs.length = ps.length
 run : ∀ (A : Around) (outer : List Env) (s : Shared) (H : Hp) (args : Args) (us : List Value) (vs : List V) (Q : VK) (E : XK), Room k A → Env0 P w K mg base A outer s H → BindsTo s fd args (ps.zip us) → Vals vs us → sp vs H Q E →
  codeAny (model P w) A (.call (.ref f) args) (CR CX outer P w H s Q E) s
theorem Env0.make {P : Program} {w : World} {K : PySem.W.Frag} {mg : Str → Option Value} {base : Heap} {A : Around} {outer : List Env} {s : Shared} {H : Hp} (e : Env0 P w K mg base A outer s H) (C : Addr) (us : List Value) (kw : List (Str × Value)) :
  Env0 P w K mg base (A.under (.builtin "type.__call__" ⟨.ref C :: us, kw⟩)) outer s H := ⟨by first | exact e.frames | (simpa [Around.under, Code.envs, Code.isFrame, pushEnvs] using e.frames), e.mod, e.bs, e.bsz, e.funs, e.frf, e.hok, e.bare⟩
section
variable {X : Cx} {pins : List (Addr × Obj)} {σ : St} {H : Hp} {s s' : Shared}
theorem Inv.env0 (I : Inv X pins σ H s) : Env0 X.prog X.w X.K X.mg X.base X.A X.stack s H :=
 ⟨I.ok.frames, I.ok.mod, I.bs, Nat.le_trans I.ok.bsz I.sz, I.stack, I.stkFree, I.hok, I.bare⟩
theorem Inv.after {Q : VK} {u : Value} (I : Inv X pins σ H s) (h : CE X.stack X.prog X.w H s Q u s') : EP X pins σ Q u s' := by
 obtain ⟨v, H', os, bare, un, hok, r, q⟩ := h
 obtain ⟨hh, g, d, t, os'⟩ := s'
 obtain rfl : os' = s.os := os
 exact ⟨v, H', I.call (h' := hh) (g' := g) (d' := d) (t' := t) (ch := []) un hok bare (fun b z => absurd z (by simp)), r, q⟩
end
def tCall (sp : Sp) (dvs : List V) (E : XK) (t : TA) : TE := fun σ H Q => t σ H fun vs H1 => sp (vs ++ dvs) H1 Q E
def tMeth (C : Addr) (m : Str) (sp : Sp) (dvs : List V) (E : XK) (ta : TE) (t : TA) : TE := fun σ H Q => ta σ H fun x H1 => ∃ a dx fs, x = .ref a ∧ H1 a = some (.ins C dx fs) ∧ fs.lookup m = none ∧
 t σ H1 fun vs H2 => sp (x :: (vs ++ dvs)) H2 Q E
def tMake (C : Addr) (sp : Sp) (dvs : List V) (E : XK) (t : TA) : TE := fun σ H Q => t σ H fun vs H1 => ∀ x dx, H1 x = none → H1 dx = none → dx ≠ x →
 sp (.ref x :: (vs ++ dvs)) (upd (upd H1 dx (.own x)) x (.ins C dx [])) (fun v H2 => v = .non ∧ Q (.ref x) H2) E
def Binds (K : PySem.W.Frag) (fd : FuncData) (ps : List Str) (ds : List Value) : Prop :=
 ∀ (s : Shared) (us : List Value), K.In s.heap → (us ++ ds).length = ps.length → BindsTo s fd ⟨us, []⟩ (ps.zip (us ++ ds))
theorem Binds.all {K : PySem.W.Frag} {fd : FuncData} {ps : List Str} (h : ∀ us : List Value, us.length = ps.length → bindArgs fd ⟨us, []⟩ = pure (ps.zip us)) : Binds K fd ps [] := fun s us _ hl => by
 rw [List.append_nil] at hl ⊢
 exact .of_eq (h us hl)
def Passes (CX : CXT) (X : Cx) (E : XK) : Prop := ∀ (pins : List (Addr × Obj)) (σ : St) (H : Hp) (s : Shared) (e : Value) (s' : Shared), Inv X pins σ H s → CX X.stack H s E e s' → X.xe e s'
section
variable {X : Cx} {CX : CXT} {k : Nat} {f C : Addr} {fd : FuncData} {ps : List Str} {sp : Sp} {dvs : List V} {ds : List Value} {E : XK} {x m : Str} {p pos apos : Pos} {e o : Expr} {es : List Expr} {ta : TE} {t : TA}
theorem run_fn {pins : List (Addr × Obj)} {σ : St} {H : Hp} {s : Shared} {Q : VK} {us : List Value} {vs : List V} (F : FnOk X.prog X.w X.K X.mg X.base CX k f fd ps sp) (hr : Room k X.A) (hb : Binds X.K fd ps ds) (hd : Vals dvs ds) (hx : Passes CX X E)
  (I : Inv X pins σ H s) (r : Vals vs us) (h : sp (vs ++ dvs) H Q E) : wpAny (model X.prog X.w) X.A (call (.ref f) us) (EP X pins σ Q) X.xe s := by
 have r2 : Vals (vs ++ dvs) (us ++ ds) := r.append hd
 have hl : (us ++ ds).length = ps.length := by rw [← r2.length]; exact F.len _ _ _ _ h
 refine wpAny_call (codeAny_mono (F.run X.A X.stack s H ⟨us, []⟩ (us ++ ds) (vs ++ dvs) Q E hr I.env0 (hb s us I.kIn hl) r2 h) fun r s' hq => ?_)
 cases r with
 | error e => exact hx pins σ H s e s' I hq
 | ok fl =>
  cases fl with
  | ret u => exact I.after hq
  | next => exact False.elim hq
  | brk => exact False.elim hq
  | cont => exact False.elim hq
theorem pe_call (F : FnOk X.prog X.w X.K X.mg X.base CX k f fd ps sp) (hr : Room k X.A) (hg : Gl X x) (hm : X.mg x = some (.ref f)) (hk : PySem.W.keepIn X.K (.ref f) = true) (hb : Binds X.K fd ps ds) (hd : Vals dvs ds) (hx : Passes CX X E)
  (ha : PA X (e :: es) t) (hdb : (x == ("__debug__" : Str)) = false := by decide) (he : starEach (e :: es) X.env = (false, eval e X.env) :: starEach es X.env := by rfl) (hpl : (backTo pos (starEach es X.env)).any (·.1) = false := by rfl) :
  PE X (.Call (.Name x p) (e :: es) [] pos) (tCall sp dvs E t) := by
 intro pins s σ H Q I h
 refine wpAny_Call_Name_kw (ld_glob I hg hm ?_ hdb)
 refine PySem.W.callWith_K (h₀ := X.base) I.ok.mod.kin hk (thn (ha pos pins s σ H _ I h) fun us s1 ⟨vs, H1, I1, r, q⟩ => ⟨I1.kIn, ?_⟩) he hpl
 exact run_fn F hr hb hd hx I1 r q
theorem pe_meth {pl : Sem Bool} (he : PE X o ta) (c : Cls X.K C) (hm : Meth X.K C m f) (F : FnOk X.prog X.w X.K X.mg X.base CX k f fd ps sp) (hr : Room k X.A) (hb : Binds X.K fd ps ds) (hd : Vals dvs ds) (hx : Passes CX X E) (ha : PA X (e :: es) t)
  (hst : starEach (e :: es) X.env = (false, eval e X.env) :: starEach es X.env := by rfl) (hpl : (backTo pos (starEach es X.env)).any (·.1) = false := by rfl)
  (ht : eval (.Call (.Attribute o m apos) (e :: es) [] pos) X.env = (do
   let ov ← eval o X.env
   standAt apos.atName
   let (f, first) ← holding [ov] (getMethod ov m pl)
   callWith pos f first (backTo pos (starEach (e :: es) X.env)) (backToKw pos (keywordEach [] X.env))) := by rfl) :
  PE X (.Call (.Attribute o m apos) (e :: es) [] pos) (tMeth C m sp dvs E ta t) := by
 intro pins s σ H Q I h
 refine PySem.W.methodCall_KW (pl := pl) (thn (he pins s σ H _ I h) fun u s1 ⟨x, H1, I1, rx, a, dx, fs, ex, ea, l, q⟩ => ?_) ht
 subst ex
 obtain rfl : u = Value.ref a := rx
 refine getmeth_ok I1 ea c hm l ?_
 refine PySem.W.callWith_K (first := [.ref a]) (h₀ := X.base) I.ok.mod.kin hm.kp (thn (ha pos pins s1 σ H1 _ I1 q) fun us s2 ⟨vs, H2, I2, r, q2⟩ => ⟨I2.kIn, ?_⟩) hst hpl
 exact run_fn (us := .ref a :: us) (vs := .ref a :: vs) F hr hb hd hx I2 (.cons rfl r) q2
theorem pe_meth0 {pl : Sem Bool} (he : PE X o ta) (c : Cls X.K C) (hm : Meth X.K C m f) (F : FnOk X.prog X.w X.K X.mg X.base CX k f fd ps sp) (hr : Room k X.A) (hb : Binds X.K fd ps ds) (hd : Vals dvs ds) (hx : Passes CX X E)
  (ht : eval (.Call (.Attribute o m apos) [] [] pos) X.env = (do
   let ov ← eval o X.env
   standAt apos.atName
   let (f, first) ← holding [ov] (getMethod ov m pl)
   callWith pos f first (backTo pos (starEach [] X.env)) (backToKw pos (keywordEach [] X.env))) := by rfl) :
  PE X (.Call (.Attribute o m apos) [] [] pos) (tMeth C m sp dvs E ta tNil) := by
 intro pins s σ H Q I h
 refine PySem.W.methodCall_KW (pl := pl) (thn (he pins s σ H _ I h) fun u s1 ⟨x, H1, I1, rx, a, dx, fs, ex, ea, l, q⟩ => ?_) ht
 subst ex
 obtain rfl : u = Value.ref a := rx
 refine getmeth_ok I1 ea c hm l ?_
 exact PySem.W.callWith_K0 (first := [.ref a]) I1.kIn hm.kp (run_fn (us := [.ref a]) (vs := [.ref a]) F hr hb hd hx I1 (.cons rfl .nil) q)
structure Mk (K : PySem.W.Frag) (C f : Addr) : Prop where
 makes : PySem.W.makesIn K C = true
 init : PySem.W.findIn K (.ref C) "__init__" = some (some (.ref f))
 fn : PySem.W.isFn K (.ref f) = true
 kp : PySem.W.keepIn K (.ref C) = true
theorem run_make {pins : List (Addr × Obj)} {σ : St} {H : Hp} {s : Shared} {Q : VK} {us : List Value} {vs : List V} (M : Mk X.K C f) (F : FnOk X.prog X.w X.K X.mg X.base CX k f fd ps sp) (hr : Room (k + 1) X.A) (hb : Binds X.K fd ps ds) (hd : Vals dvs ds)
  (hx : Passes CX X E) (I : Inv X pins σ H s) (r : Vals vs us)
  (h : ∀ x dx, H x = none → H dx = none → dx ≠ x → sp (.ref x :: (vs ++ dvs)) (upd (upd H dx (.own x)) x (.ins C dx [])) (fun v H2 => v = .non ∧ Q (.ref x) H2) E) :
  wpAny (model X.prog X.w) X.A (call (.ref C) us) (EP X pins σ Q) X.xe s := by
 have hq := h (s.heap.objs.size + 1) s.heap.objs.size (I.hok.fresh (Nat.le_succ _)) (I.hok.fresh (Nat.le_refl _)) (Nat.ne_of_lt (Nat.lt_succ_self _))
 have I2 := Inv.made (C := C) I
 have r2 : Vals (V.ref (s.heap.objs.size + 1) :: (vs ++ dvs)) (Value.ref (s.heap.objs.size + 1) :: (us ++ ds)) := .cons rfl (r.append hd)
 have hl : (Value.ref (s.heap.objs.size + 1) :: us ++ ds).length = ps.length := by
  have e := r2.length
  rw [F.len _ _ _ _ hq] at e
  exact e.symm
 refine wpAny_call (make_map (f := f) I.kIn M.makes M.init (beq_iff_eq.mp M.fn) (codeAny_mono (F.run _ X.stack _ _ ⟨Value.ref (s.heap.objs.size + 1) :: us, []⟩ (Value.ref (s.heap.objs.size + 1) :: (us ++ ds)) _ _ E (hr.make C us [])
  (I2.env0.make C us []) (hb _ (Value.ref (s.heap.objs.size + 1) :: us) I2.kIn hl) r2 hq) fun r s' hq' => ?_))
 cases r with
 | error e => exact hx pins σ _ _ e s' I2 hq'
 | ok fl =>
  cases fl with
  | ret u =>
   obtain ⟨v, H', I3, rv, ev, q3⟩ := I2.after hq'
   subst ev
   exact ⟨rv, ⟨V.ref (s.heap.objs.size + 1), H', I3, rfl, q3⟩⟩
  | next => exact False.elim hq'
  | brk => exact False.elim hq'
  | cont => exact False.elim hq'
theorem pe_make (M : Mk X.K C f) (F : FnOk X.prog X.w X.K X.mg X.base CX k f fd ps sp) (hr : Room (k + 1) X.A) (hg : Gl X x) (hm : X.mg x = some (.ref C)) (hb : Binds X.K fd ps ds) (hd : Vals dvs ds) (hx : Passes CX X E)
  (ha : PA X (e :: es) t) (hdb : (x == ("__debug__" : Str)) = false := by decide) (he : starEach (e :: es) X.env = (false, eval e X.env) :: starEach es X.env := by rfl) (hpl : (backTo pos (starEach es X.env)).any (·.1) = false := by rfl) :
  PE X (.Call (.Name x p) (e :: es) [] pos) (tMake C sp dvs E t) := by
 intro pins s σ H Q I h
 refine wpAny_Call_Name_kw (ld_glob I hg hm ?_ hdb)
 refine PySem.W.callWith_K (h₀ := X.base) I.ok.mod.kin M.kp (thn (ha pos pins s σ H _ I h) fun us s1 ⟨vs, H1, I1, r, q⟩ => ⟨I1.kIn, ?_⟩) he hpl
 exact run_make M F hr hb hd hx I1 r q
theorem pe_make0 (M : Mk X.K C f) (F : FnOk X.prog X.w X.K X.mg X.base CX k f fd ps sp) (hr : Room (k + 1) X.A) (hg : Gl X x) (hm : X.mg x = some (.ref C)) (hb : Binds X.K fd ps ds) (hd : Vals dvs ds) (hx : Passes CX X E)
  (hdb : (x == ("__debug__" : Str)) = false := by decide) : PE X (.Call (.Name x p) [] [] pos) (tMake C sp dvs E tNil) := by
 intro pins s σ H Q I h
 refine wpAny_Call_Name_kw (ld_glob I hg hm ?_ hdb)
 exact PySem.W.callWith_K0 I.kIn M.kp (run_make (us := []) M F hr hb hd hx I .nil h)
end
def PK (X : Cx) (kws : List Keyword) (t : TA) : Prop :=
 ∀ (pos : Pos) (pins : List (Addr × Obj)) (s : Shared) (σ : St) (H : Hp) (Q : List V → Hp → Prop), Inv X pins σ H s → t σ H Q → wpAny (model X.prog X.w) X.A (evalAll ((backToKw pos (keywordEach kws X.env)).map (·.2))) (AP X pins σ Q) X.xe s
section
variable {X : Cx} {CX : CXT} {k : Nat} {f C : Addr} {fd : FuncData} {ps ks : List Str} {sp : Sp} {E : XK} {x m : Str} {p pos apos kpos : Pos} {e o : Expr} {es : List Expr} {kws : List Keyword} {te ta : TE} {t tk : TA} {nm : Option Str}
theorem pk_nil : PK X [] tNil := fun _ _ _ _ H Q I h => wpAny_evalAll_nil ⟨[], H, I, .nil, h⟩
theorem pk_cons (ha : PE X e te) (hr : PK X kws t) : PK X (⟨nm, e, kpos⟩ :: kws) (tCons te t) := by
 intro pos pins s σ H Q I h
 show wpAny _ _ (evalAll ((do let v ← eval e X.env; standAt pos; pure v) :: (backToKw pos (keywordEach kws X.env)).map (·.2))) _ _ s
 refine wpAny_evalAll_cons (wpAny_bind (thn (ha pins s σ H _ I h) fun u s1 ⟨x, H1, I1, r1, q1⟩ => wpAny_bind (wpAny_standAt (wpAny_pure ?_))))
 exact thn (hr pos pins s1 σ H1 _ I1 q1) fun us s2 ⟨xs, H2, I2, r2, q2⟩ => ⟨x :: xs, H2, I2, .cons r1 r2, q2⟩
variable {g : List Value → List Value → List Value} {gV : List V → List V → List V}
end
structure FnScope (N P : List Str) (sc : Scope) : Prop where
 kind : sc.kind = .function
 co : sc.isCoroutine = false
 gen : sc.isGenerator = false
 nd : N.Nodup
 pre : N.take P.length = P
 par : ∀ x ∈ P, sc.names.lookup x = some .local ∨ sc.names.lookup x = some .cell
 nofree : ∀ y ∈ sc.names, y.2 ≠ .free
theorem bindL_out {kindOf : Str → Option NameKind} {x : Str} : ∀ {binds : List (Str × Value)} {m : Str → Option Value}, (∀ v, (x, v) ∉ binds) → bindL kindOf binds m x = m x
 | [], _, _ => rfl
 | (n, v) :: r, m, h => by
  unfold bindL
  rw [bindL_out fun w hw => h w (List.mem_cons_of_mem _ hw)]
  split
  ·have : x ≠ n := by rintro rfl; exact h v List.mem_cons_self
   simp [this]
  ·rfl
theorem bindC_out {kindOf : Str → Option NameKind} {x : Str} : ∀ {binds : List (Str × Value)} {m : Str → Option Value}, (∀ v, (x, v) ∉ binds) → bindC kindOf binds m x = m x
 | [], _, _ => rfl
 | (n, v) :: r, m, h => by
  unfold bindC
  rw [bindC_out fun w hw => h w (List.mem_cons_of_mem _ hw)]
  split
  ·rfl
  ·have : x ≠ n := by rintro rfl; exact h v List.mem_cons_self
   simp [this]
theorem bindL_get {kindOf : Str → Option NameKind} {x : Str} {v : Value} : ∀ {P : List Str} {vs : List Value} {i : Nat} {m : Str → Option Value}, P.Nodup → P[i]? = some x → vs[i]? = some v → kindOf x = some .local →
  bindL kindOf (P.zip vs) m x = some v
 | [], _, _, _, _, h, _, _ => by simp at h
 | _ :: _, [], _, _, _, _, h, _ => by simp at h
 | p :: P, w :: vs, 0, m, nd, h1, h2, hk => by
  simp at h1 h2; subst h1; subst h2
  show bindL kindOf ((p, w) :: P.zip vs) m p = _
  unfold bindL
  rw [bindL_out fun v hv => (List.nodup_cons.mp nd).1 (List.of_mem_zip hv).1, if_pos hk]
  simp
 | p :: P, w :: vs, i + 1, m, nd, h1, h2, hk => by
  show bindL kindOf ((p, w) :: P.zip vs) m x = _
  unfold bindL
  exact bindL_get (i := i) (List.nodup_cons.mp nd).2 (by simpa using h1) (by simpa using h2) hk
theorem bindC_get {kindOf : Str → Option NameKind} {x : Str} {v : Value} : ∀ {P : List Str} {vs : List Value} {i : Nat} {m : Str → Option Value}, P.Nodup → P[i]? = some x → vs[i]? = some v → kindOf x ≠ some .local →
  bindC kindOf (P.zip vs) m x = some v
 | [], _, _, _, _, h, _, _ => by simp at h
 | _ :: _, [], _, _, _, _, h, _ => by simp at h
 | p :: P, w :: vs, 0, m, nd, h1, h2, hk => by
  simp at h1 h2; subst h1; subst h2
  show bindC kindOf ((p, w) :: P.zip vs) m p = _
  unfold bindC
  rw [bindC_out fun v hv => (List.nodup_cons.mp nd).1 (List.of_mem_zip hv).1, if_neg hk]
  simp
 | p :: P, w :: vs, i + 1, m, nd, h1, h2, hk => by
  show bindC kindOf ((p, w) :: P.zip vs) m x = _
  unfold bindC
  exact bindC_get (i := i) (List.nodup_cons.mp nd).2 (by simpa using h1) (by simpa using h2) hk
def start (N : List Str) (vs : List V) : St := vs.map some ++ List.replicate (N.length - vs.length) none
def cxOf (CX : CXT) (P : Program) (w : World) (K : PySem.W.Frag) (mg : Str → Option Value) (base : Heap) (N : List Str) (qual : Str) (scope : Scope) (f : Addr) (cd : Value) (A : Around) (outer : List Env) (s : Shared) (H : Hp) (E : XK) : Cx where
 prog := P
 w := w
 K := K
 mg := mg
 base := base
 A := A.deeper (envOfC qual scope s.heap.objs.size f cd)
 N := N
 s_0 := s
 H_0 := H
 env := envOfC qual scope s.heap.objs.size f cd
 outer := outer
 stack := envOfC qual scope s.heap.objs.size f cd :: outer
 ex := []
 calm := true
 fn := fun _ => true
 pn := []
 xe := fun e s' => wpAny (model P w) (A.deeper (envOfC qual scope s.heap.objs.size f cd)) (leaving (envOfC qual scope s.heap.objs.size f cd) e) (fun _ s'' => CX outer H s E e s'') (fun e' s'' => CX outer H s E e' s'') s'
theorem cell_has {sc : Scope} {n : Nat} {x : Str} (h : sc.names.lookup x = some .cell) : ∃ c, (cellsFrom n sc.names []).lookup x = some c := by
 have q := PySem.W.cellsFrom_some sc.names n [] (.inl h)
 exact Option.isSome_iff_exists.mp q
theorem inv_start {CX : CXT} {P : Program} {w : World} {K : PySem.W.Frag} {mg : Str → Option Value} {base : Heap} {N ps : List Str} {qual : Str} {scope : Scope} {f : Addr} {cd : Value} {A : Around} {outer : List Env} {s s1 : Shared} {H : Hp} {E : XK} {us : List Value} {vs : List V}
  (S : FnScope N ps scope) (hd : A.handled = none) (e0 : Env0 P w K mg base A outer s H) (hl : vs.length = ps.length) (r : Vals vs us)
  (x : InCallC s s.heap.objs.size (bindL (envOfC qual scope s.heap.objs.size f cd).kindOf (ps.zip us) fun _ => none) (cellsFrom (s.heap.objs.size + 1) scope.names []) (bindC (envOfC qual scope s.heap.objs.size f cd).kindOf (ps.zip us) fun _ => none) s1) :
  Inv (cxOf CX P w K mg base N qual scope f cd A outer s H E) [] (start N vs) H s1 := by
 have hpl : ps.length ≤ N.length := by have := congrArg List.length S.pre; rw [List.length_take] at this; omega
 obtain ⟨h1, tk, rfl, hk⟩ := x.done
 have noA : ∀ b : Addr, b ∉ (cxOf CX P w K mg base N qual scope f cd A outer s H E).ex := fun b z => absurd (show b ∈ ([] : List Addr) from z) (by simp)
 refine ⟨⟨e0.mod, S.kind, rfl, rfl, Nat.le_refl _, fun y z c h1 h2 => ?_, fun y hy => ?_, fun y c _ h => ?_, fun _ => hd, Around.frames_deeper e0.frames, .inr ⟨rfl, rfl⟩, fun b z => absurd z (noA b), e0.bs, e0.bsz, fun b _ _ => noA b, fun b z => absurd z (noA b), e0.funs, e0.frf⟩,
  rfl, e0.bare, Un.kept hk, ⟨_, x.toInCall.ns, fun i y v h1 h2 h3 => ?_⟩, fun y c h => ⟨_, x.cell y c h⟩, e0.hok.fresh (Nat.le_refl _), fun y c h => ?_, fun p hp => absurd (show p ∈ ([] : List (Addr × Obj)) from hp) (by simp), e0.hok.kept hk, ?_⟩
 ·exact name_of_addr x.apart (PySem.mem_of_lookup h1) (PySem.mem_of_lookup h2)
 ·have hy : scope.names.lookup y = some .cell ∨ scope.names.lookup y = some .free := hy
  rcases hy with hy | hy
  ·exact cell_has hy
  ·exact absurd rfl (S.nofree _ (PySem.mem_of_lookup hy))
 ·exact Nat.le_of_lt (x.above y c (PySem.mem_of_lookup h))
 ·have hi : i < vs.length := by
   unfold start at h2
   by_cases hi : i < vs.length
   ·exact hi
   ·rw [List.getElem?_append_right (by simpa using hi)] at h2
    rw [List.getElem?_replicate] at h2
    split at h2 <;> cases h2
  have ha : vs[i]? = some v := by
   unfold start at h2
   rw [List.getElem?_append_left (by simpa using hi), List.getElem?_map] at h2
   cases e : vs[i]? with
   | none => rw [e] at h2; cases h2
   | some a => rw [e] at h2; cases h2; rfl
  obtain ⟨u, hu, rv⟩ := r.get ha
  have hp : ps[i]? = some y := by
   rw [← S.pre, List.getElem?_take_of_lt (by omega)]; exact h1
  have ndP : ps.Nodup := by rw [← S.pre]; exact S.nd.sublist (List.take_sublist _ _)
  refine ⟨u, rv, ?_⟩
  rcases S.par y (List.mem_of_getElem? hp) with k | k
  ·exact .inl ⟨k, bindL_get ndP hp hu k⟩
  ·obtain ⟨c, e⟩ := cell_has (n := s.heap.objs.size + 1) k
   refine .inr ⟨.inl k, c, e, ?_⟩
   have q := x.cell y c e
   rw [bindC_get ndP hp hu (by show scope.names.lookup y ≠ _; rw [k]; decide)] at q
   exact q
 ·exact e0.hok.fresh (Nat.le_of_lt (x.above y c (PySem.mem_of_lookup h)))
 ·unfold start
  show _ = N.length
  rw [List.length_append, List.length_map, List.length_replicate]
  omega
theorem fn_of {CX : CXT} {P : Program} {w : World} {K : PySem.W.Frag} {mg : Str → Option Value} {base : Heap} {k : Nat} {f : Addr} {name qual : Str} {params : Arguments} {body : List Stmt} {scope : Scope} {dV kV doc pm cdv ct oc : Value} {an od : Option Addr}
  {osl : Array (Option Value)} {N ps : List Str} {sp : Sp} (lk : K.lookup f = some ⟨oc, od, .func (PySem.W.fnOf name qual params body scope dV kV doc pm an cdv ct), osl⟩) (hcd : PySem.W.codeIn K cdv qual = true) (S : FnScope N ps scope)
  (len : ∀ vs H Q E, sp vs H Q E → vs.length = ps.length)
  (hbody : ∀ (A : Around) (outer : List Env) (s : Shared) (H : Hp) (vs : List V) (Q : VK) (E : XK), Room k (A.deeper (envOfC qual scope s.heap.objs.size f cdv)) → sp vs H Q E →
   ∃ t, PSs (cxOf CX P w K mg base N qual scope f cdv A outer s H E) body t ∧ t { nx := fun _ H' => Q .non H', rt := Q } (start N vs) H) :
  FnOk P w K mg base CX (k + 1) f (PySem.W.fnOf name qual params body scope dV kV doc pm an cdv ct) ps sp := by
 refine ⟨len, fun A outer s H args us vs Q E hr e0 hb r hsp => ?_⟩
 have hl := len _ _ _ _ hsp
 have KX : K.In s.heap := e0.mod.kin.keeps fun b o e => (e0.bs b o e).1
 have lim : s.heap.NoLimit := e0.mod.nolimit.keeps fun b o e => (e0.bs b o e).1
 have hkind : ∀ y ∈ ps.zip us, scope.names.lookup y.1 = some .local ∨ (scope.names.lookup y.1 = some .cell ∧ ((cellsFrom (s.heap.objs.size + 1) scope.names []).lookup y.1).isSome = true) := fun ⟨n, v⟩ hy => by
  rcases S.par n (List.of_mem_zip hy).1 with q | q
  ·exact .inl q
  ·exact .inr ⟨q, PySem.W.cellsFrom_some _ _ _ (.inl q)⟩
 refine codeAny_call_function hr.depth (KX _ _ lk) rfl S.co S.gen rfl (PySem.W.codeRec_of KX hcd) (hb _ _ _ _ ?_)
 refine wpAny_newFunctionEnv_cells S.kind hkind fun env he s1 x => ?_
 subst he
 refine ⟨lim.keeps x.toInCall.keep, codeAny_func ?_⟩
 obtain ⟨t, ht, hq⟩ := hbody A outer s H vs Q E (hr.deeper _) hsp
 have I : Inv (cxOf CX P w K mg base N qual scope f cdv A outer s H E) [] (start N vs) H s1 := inv_start S hr.hd e0 hl r x
 refine wpAny_mono (ht [] s1 (start N vs) H _ I hq) (fun fl s' hs => ?_) fun e s' hs => hs
 have fin : ∀ {σ' : St} {H' : Hp} {v : V} {u : Value}, Inv (cxOf CX P w K mg base N qual scope f cdv A outer s H E) [] σ' H' s' → RelV v u → Q v H' → CE outer P w H s Q u s' :=
  fun {σ' H' v u} J rv q => ⟨v, H', J.os, J.bare, J.base, J.hok, rv, q⟩
 cases fl with
 | ret u =>
  obtain ⟨v, σ', H', J, rv, q⟩ := hs
  exact fin J rv q
 | next =>
  obtain ⟨σ', H', J, q⟩ := hs
  exact fin (v := V.non) (u := Value.none) J rfl q
 | brk =>
  obtain ⟨_, _, _, q⟩ := hs
  exact False.elim q
 | cont =>
  obtain ⟨_, _, _, q⟩ := hs
  exact False.elim q
end L2
namespace L2
open PySem PySem.Spec PyProof.Rows
section
variable {X : Cx} {x : Str} {p pos : Pos} {e : Expr} {es : List Expr} {t : TA} {id T : String} {r : List V → Hp → VK → Prop}
def tCB (r : List V → Hp → VK → Prop) (t : TA) : TE := fun σ H Q => t σ H fun vs H1 => r vs H1 Q
theorem pe_callB (hc : CallR X (.builtin id) r) (hg : Gl X x) (hm : X.mg x = none) (hv : bootBuiltins x = some (.builtin id)) (ha : PA X (e :: es) t) (hn : x ≠ "__name__" := by decide) (hdb : (x == ("__debug__" : Str)) = false := by decide)
  (he : starEach (e :: es) X.env = (false, eval e X.env) :: starEach es X.env := by rfl) (hpl : (backTo pos (starEach es X.env)).any (·.1) = false := by rfl) : PE X (.Call (.Name x p) (e :: es) [] pos) (tCB r t) := by
 intro pins s σ H Q I h
 refine wpAny_Call_Name_kw (ld_blt I hg hm hv ?_ hn hdb)
 exact PyProof.Rows.callWith_builtin1 (thn (ha pos pins s σ H _ I h) fun us s1 ⟨vs, H1, I1, r1, q1⟩ => hc pins s1 σ H1 vs us Q I1 r1 q1) he hpl
theorem pe_callTy (hc : CallR X (.type T) r) (hg : Gl X x) (hm : X.mg x = none) (hv : bootBuiltins x = some (.type T)) (ha : PA X (e :: es) t) (hn : x ≠ "__name__" := by decide) (hdb : (x == ("__debug__" : Str)) = false := by decide)
  (he : starEach (e :: es) X.env = (false, eval e X.env) :: starEach es X.env := by rfl) (hpl : (backTo pos (starEach es X.env)).any (·.1) = false := by rfl) : PE X (.Call (.Name x p) (e :: es) [] pos) (tCB r t) := by
 intro pins s σ H Q I h
 refine wpAny_Call_Name_kw (ld_blt I hg hm hv ?_ hn hdb)
 exact PyProof.Rows.callWith_type1 (thn (ha pos pins s σ H _ I h) fun us s1 ⟨vs, H1, I1, r1, q1⟩ => hc pins s1 σ H1 vs us Q I1 r1 q1) he hpl
end
end L2
namespace HT
open PySem PyProof.Rows
section
open PySem.SeqAt
open PySem.AutoSeq1 (wpAny_loadPart')
open PySem.MeetsSeq PySem.MeetsSeq2 PySem.MeetsSeq3
end
section
variable {prog : Program} {w : World} {A : Around} {E : Value → Shared → Prop} {s : Shared}
def sIx (n d : Nat) : Option Int → Nat
 | none => d
 | some v => if v < 0 then (v + (n : Int)).toNat else min v.toNat n
theorem sIx_none (n d : Nat) : sIx n d none = d := rfl
theorem sIx_nat (n d k : Nat) : sIx n d (some (k : Int)) = min k n := by
 show (if (k : Int) < 0 then ((k : Int) + (n : Int)).toNat else min (k : Int).toNat n) = min k n
 rw [if_neg (by omega), Int.toNat_natCast]
end
end HT
namespace L2
open PySem PySem.Spec PyProof.Rows
abbrev TO := St → Hp → (Option Int → Hp → Prop) → Prop
def PO (X : Cx) (e : Option Expr) (t : TO) : Prop :=
 ∀ (pins : List (Addr × Obj)) (s : Shared) (σ : St) (H : Hp) (Q : Option Int → Hp → Prop), Inv X pins σ H s → t σ H Q →
  wpAny (model X.prog X.w) X.A (evalPart e X.env) (fun u s' => ∃ o H', Inv X pins σ H' s' ∧ IsPart u o ∧ Q o H') X.xe s
def tNoPart : TO := fun _ H Q => Q none H
def tPart (t : TE) : TO := fun σ H Q => t σ H fun x H1 => ∃ i, x = .int i ∧ Q (some i) H1
section
variable {X : Cx} {e : Expr} {te : TE} {lo hi : Option Expr} {tl th : TO} {pos p2 : Pos}
theorem po_none : PO X none tNoPart := by
 intro pins s σ H Q I h
 rw [evalPart_none]
 exact wpAny_pure ⟨none, H, I, .none, h⟩
theorem po_some (h : PE X e te) : PO X (some e) (tPart te) := by
 intro pins s σ H Q I hw
 rw [evalPart_some]
 refine thn (h pins s σ H _ I hw) fun u s1 ⟨x, H1, I1, r1, q1⟩ => ?_
 obtain ⟨i, rfl, q⟩ := q1
 obtain ⟨t, rfl⟩ := r1
 exact ⟨some i, H1, I1, .int i t, q⟩
def SlR (X : Cx) (r : V → Option Int → Option Int → Hp → VK → Prop) : Prop :=
 ∀ (pins : List (Addr × Obj)) (s : Shared) (σ : St) (H : Hp) (x : V) (v vl vu : Value) (lo hi : Option Int) (sl : Addr) (Q : VK), Inv X pins σ H s → RelV x v → s.heap.IsSliceOf sl vl vu .none → IsPart vl lo → IsPart vu hi → r x lo hi H Q →
  ∃ T id, typeLookup (.type T) "__getitem__" = pure (some (.builtin id)) ∧ s.TypeIs v T ∧ wpAny (model X.prog X.w) X.A (getItem v (.ref sl)) (EP X pins σ Q) X.xe s
def tSl (r : V → Option Int → Option Int → Hp → VK → Prop) (te : TE) (tl th : TO) : TE := fun σ H Q => te σ H fun x H1 => tl σ H1 fun l H2 => th σ H2 fun u H3 => r x l u H3 Q
theorem pe_slice {r : V → Option Int → Option Int → Hp → VK → Prop} (hr : SlR X r) (he : PE X e te) (hl : PO X lo tl) (hu : PO X hi th) : PE X (.Subscript e (.Slice lo hi none p2) pos) (tSl r te tl th) := by
 intro pins s σ H Q I h
 refine Subscript_ (thn (he pins s σ H _ I h) fun v s1 ⟨x, H1, I1, r1, q1⟩ => ?_)
 refine wpAny_Slice (thn (hl pins s1 σ H1 _ I1 q1) fun vl s2 ⟨l, H2, I2, pl, q2⟩ => thn (hu pins s2 σ H2 _ I2 q2) fun vu s3 ⟨u, H3, I3, pu, q3⟩ => ?_)
 rw [evalPart_none]
 refine wpAny_pure ?_
 have I4 : Inv X pins σ H3 { s3 with heap := s3.heap.push { cls := .type "slice", data := .fields #[vl, vu, .none] } } := I3.kept (t' := s3.toks) fun b ob q => Heap.get?_push_of_some _ q
 obtain ⟨T, id, hT, ht, hg⟩ := hr pins { s3 with heap := s3.heap.push { cls := .type "slice", data := .fields #[vl, vu, .none] } } σ H3 x v vl vu l u s3.heap.objs.size Q I4 r1 (Heap.IsSliceOf.new ..) pl pu q3
 show wpAny (model X.prog X.w) X.A (subscriptTail e (.Slice lo hi none p2) v (.ref s3.heap.objs.size)) (EP X pins σ Q) X.xe { s3 with heap := s3.heap.push { cls := .type "slice", data := .fields #[vl, vu, .none] } }
 exact tail_any (ops := [.ref s3.heap.objs.size, v]) ht hT hg (by with_unfolding_all rfl)
def cutV (xs : List V) (lo hi : Option Int) : List V := (xs.drop (HT.sIx xs.length 0 lo)).take (HT.sIx xs.length xs.length hi - HT.sIx xs.length 0 lo)
theorem cutV_length (xs : List V) (lo hi : Option Int) : (cutV xs lo hi).length ≤ xs.length := by
 unfold cutV
 rw [List.length_take, List.length_drop]
 omega
end
end L2
namespace L2
open PySem PySem.Spec PyProof.Rows
def ixN (n : Nat) (i : Int) : Option Nat := if 0 ≤ i then (if i < n then some i.toNat else none) else if -(n : Int) ≤ i then some (i + n).toNat else none
def atI {α : Type} (xs : List α) (i : Int) : Option α := (ixN xs.length i).bind fun j => xs[j]?
theorem ixN_seq {n : Nat} {i : Int} {j : Nat} (h : ixN n i = some j) : seqIndex? i n = some j ∧ j < n ∧ -(n : Int) ≤ i ∧ i < n := by
 unfold ixN at h
 by_cases h0 : 0 ≤ i
 ·rw [if_pos h0] at h
  by_cases h1 : i < n
  ·rw [if_pos h1] at h
   have e : i.toNat = j := Option.some.inj h
   exact ⟨by rw [seqIndex_of h0 h1, e], by omega, by omega, h1⟩
  ·rw [if_neg h1] at h; cases h
 ·rw [if_neg h0] at h
  by_cases h1 : -(n : Int) ≤ i
  ·rw [if_pos h1] at h
   have e : (i + n).toNat = j := Option.some.inj h
   exact ⟨by rw [seqIndex_neg (by omega) h1, e], by omega, h1, by omega⟩
  ·rw [if_neg h1] at h; cases h
theorem atI_get {α : Type} {xs : List α} {i : Int} {v : α} (h : atI xs i = some v) : ∃ j, seqIndex? i xs.length = some j ∧ xs[j]? = some v ∧ j < xs.length ∧ -(xs.length : Int) ≤ i ∧ i < xs.length := by
 unfold atI at h
 cases e : ixN xs.length i with
 | none => rw [e] at h; cases h
 | some j =>
  rw [e] at h
  obtain ⟨h1, h2, h3, h4⟩ := ixN_seq e
  exact ⟨j, h1, h, h2, h3, h4⟩
theorem atI_nat {α : Type} {xs : List α} {j : Nat} {v : α} (h : xs[j]? = some v) : atI xs (j : Int) = some v := by
 have hj : j < xs.length := (List.getElem?_eq_some_iff.mp h).1
 have e : ixN xs.length (j : Int) = some j := by
  unfold ixN
  rw [if_pos (by omega), if_pos (by omega)]; simp
 unfold atI; rw [e]; exact h
theorem atI_last {α : Type} (xs : List α) (v : α) : atI (xs ++ [v]) (-1) = some v := by
 have hl : (xs ++ [v]).length = xs.length + 1 := by simp
 have e : ixN (xs ++ [v]).length (-1) = some xs.length := by
  unfold ixN
  rw [hl, if_neg (by decide), if_pos (by omega)]
  congr 1
  omega
 unfold atI
 rw [e]
 show (xs ++ [v])[xs.length]? = some v
 simp
def PlainIx (b : Expr) : Prop := ∀ o i, subscripted b false o i = operate [o, i] (getItem o i)
def IxR (X : Cx) (r : R2) : Prop :=
 ∀ (value slice : Expr) (pins : List (Addr × Obj)) (s : Shared) (σ : St) (H : Hp) (x y : V) (v u : Value) (Q : VK), Inv X pins σ H s → RelV x v → RelV y u → r x y H Q →
  subscripted slice false v u = operate [v, u] (getItem v u) → wpAny (model X.prog X.w) X.A (subscriptTail value slice v u) (EP X pins σ Q) X.xe s
def MtR (X : Cx) (id : String) (r : V → List V → Hp → VK → Prop) : Prop :=
 ∀ (pins : List (Addr × Obj)) (s : Shared) (σ : St) (H : Hp) (x : V) (xs : List V) (v : Value) (us : List Value) (Q : VK), Inv X pins σ H s → RelV x v → Vals xs us → r x xs H Q →
  wpAny (model X.prog X.w) X.A (call (.builtin id) (v :: us)) (EP X pins σ Q) X.xe s
section
variable {X : Cx} {a b : Expr} {ta tb : TE} {pos : Pos}
theorem pe_ix {r : R2} (hr : IxR X r) (ha : PE X a ta) (hb : PE X b tb) (hs : PlainIx b) : PE X (.Subscript a b pos) (tOp r ta tb) := by
 intro pins s σ H Q I h
 exact Subscript_ (binT ha hb I h fun v u s2 x y H2 I2 rx ry q => hr a b pins s2 σ H2 x y v u Q I2 rx ry q (hs _ _))
def rIxL (K : PySem.W.Frag) : R2 := fun x y H Q => ∃ p xs i v, x = .ref p ∧ y = .int i ∧ SqL K H p xs ∧ atI xs i = some v ∧ Q v H
def rIxT (K : PySem.W.Frag) : R2 := fun x y H Q => ∃ p xs i v, x = .ref p ∧ y = .int i ∧ SqT K H p xs ∧ atI xs i = some v ∧ Q v H
def rIxS : R2 := fun x y H Q => ∃ z i c, x = .str z ∧ y = .int i ∧ z.length ≤ sizeLine ∧ atI z.cps.toList i = some c ∧ Q (.str ⟨#[c]⟩) H
theorem ix_list : IxR X (rIxL X.K) := by
 intro value slice pins s σ H x y v u Q I rx ry h hs
 obtain ⟨p, xs, i, z, rfl, rfl, hq, he, q⟩ := h
 cases rx
 obtain ⟨t, rfl⟩ := ry
 obtain ⟨its, r, pl, hz⟩ := I.list hq
 obtain ⟨j, h1, h2, h3, h4, h5⟩ := atI_get he
 obtain ⟨w, ew, rw'⟩ := r.get h2
 have hl := r.length
 have hn := line63
 have fin : EP X pins σ Q w s := ⟨z, H, I, rw', q⟩
 by_cases h0 : 0 ≤ i
 ·have hj : i.toNat = j := by
   rw [seqIndex_of h0 h5] at h1
   exact Option.some.inj h1
  exact item_listR pl.isList h0 (by omega) (by rw [hj]; simpa using ew) fin hs
 ·have hj : (i + (its.toArray.size : Int)).toNat = j := by
   rw [seqIndex_neg (by omega) h4] at h1
   rw [List.size_toArray, ← hl]
   exact Option.some.inj h1
  exact subscriptTail_builtinR (x := w) pl.isList.typeIs slot_list_getitem.lookup
   (wpAny_getItem_list_neg (Q := fun r s' => r = w ∧ EP X pins σ Q r s') pl.isList (by omega) (by rw [List.size_toArray] <;> omega) (by omega) (by rw [hj]; simpa using ew) ⟨rfl, fin⟩) hs
theorem ix_tup : IxR X (rIxT X.K) := by
 intro value slice pins s σ H x y v u Q I rx ry h hs
 obtain ⟨p, xs, i, z, rfl, rfl, hq, he, q⟩ := h
 cases rx
 obtain ⟨t, rfl⟩ := ry
 obtain ⟨its, r, pl, hz⟩ := I.tuple hq
 obtain ⟨j, h1, h2, h3, h4, h5⟩ := atI_get he
 obtain ⟨w, ew, rw'⟩ := r.get h2
 have hl := r.length
 have hn := line63
 have fin : EP X pins σ Q w s := ⟨z, H, I, rw', q⟩
 exact subscriptTail_builtinR (x := w) pl.typeIs slot_tuple_getitem.lookup
  (getItem_tuple (j := j) (Q := fun r s' => r = w ∧ EP X pins σ Q r s') pl (by omega) (by omega) (by rw [List.size_toArray, ← hl]; exact h1) (by simpa using ew) ⟨rfl, fin⟩) hs
theorem ix_str : IxR X rIxS := by
 intro value slice pins s σ H x y v u Q I rx ry h hs
 obtain ⟨z, i, c, rfl, rfl, hz, he, q⟩ := h
 obtain ⟨t, rfl⟩ := rx
 obtain ⟨t', rfl⟩ := ry
 obtain ⟨j, h1, h2, h3, h4, h5⟩ := atI_get he
 have hl : z.cps.toList.length = z.length := by simp [Str.length]
 rw [hl] at h1 h4 h5
 have hn := line63
 exact tail_any (typeIs_str s z t) slot_str_getitem.lookup (getItem_str (c := c) (by
  have e1 : decide (i < -(2 ^ 63 : Int)) = false := decide_eq_false (by omega)
  have e2 : decide (i ≥ 2 ^ 63) = false := decide_eq_false (by omega)
  rw [e1, e2, Bool.or_false]) (by rw [h1]; simpa using h2) ⟨.str ⟨#[c]⟩, H, I.tok _, ⟨_, rfl⟩, q⟩) hs
theorem slice_bounds (lo hi : Option Int) (n : Nat) : (sliceBounds lo hi none n).1 = ((HT.sIx n 0 lo : Nat) : Int) ∧ (sliceBounds lo hi none n).2.1 = ((HT.sIx n n hi : Nat) : Int) ∧ (sliceBounds lo hi none n).2.2 = 1 := by
 refine ⟨?_, ?_, rfl⟩
 ·cases lo with
  | none => simp [sliceBounds, HT.sIx]
  | some i =>
   simp only [sliceBounds, HT.sIx, Option.getD_none, show (1 : Int) > 0 by decide, if_true]
   by_cases h : i < 0
   ·simp only [h, if_true] <;> omega
   ·simp only [h, if_false] <;> omega
 ·cases hi with
  | none => simp [sliceBounds, HT.sIx]
  | some i =>
   simp only [sliceBounds, HT.sIx, Option.getD_none, show (1 : Int) > 0 by decide, if_true]
   by_cases h : i < 0
   ·simp only [h, if_true] <;> omega
   ·simp only [h, if_false] <;> omega
theorem slicePick_cut (its : List Value) (lo hi : Option Int) : slicePick its.toArray lo hi none = ((its.drop (HT.sIx its.length 0 lo)).take (HT.sIx its.length its.length hi - HT.sIx its.length 0 lo)).toArray := by
 obtain ⟨h1, h2, h3⟩ := slice_bounds lo hi its.toArray.size
 unfold slicePick
 rw [h1, h2, h3]
 simp only [sliceRange_one, pick_run, List.size_toArray] <;> rfl
def rSlL (K : PySem.W.Frag) : V → Option Int → Option Int → Hp → VK → Prop := fun x lo hi H Q => ∃ a xs, x = .ref a ∧ SqL K H a xs ∧ ∀ p, H p = none → Q (.ref p) (upd H p (.lst (cutV xs lo hi)))
theorem sl_list : SlR X (rSlL X.K) := by
 intro pins s σ H x v vl vu lo hi sl Q I rx hs pl pu h
 obtain ⟨a, xs, rfl, hx, q⟩ := h
 cases rx
 obtain ⟨its, r, ht, hz⟩ := I.list hx
 have hlen := r.length
 refine ⟨"list", _, slot_list_getitem.lookup, ht.isList.typeIs, ?_⟩
 refine wpAny_getItem_list_slice ht.isList hs pl pu .none (by simp) ?_ (by rw [List.size_toArray] <;> omega)
 rw [slicePick_cut, ← hlen]
 refine ⟨.ref s.heap.objs.size, _, I.laid (t' := s.toks) (o := .lst (cutV xs lo hi)) (fun b ob q => Heap.get?_push_of_some _ q) (Nat.le_refl _) ?_, rfl, q _ (I.hok.fresh (Nat.le_refl _))⟩
 exact ⟨Nat.le_trans (cutV_length xs lo hi) hz, _, 0, (r.drop (HT.sIx xs.length 0 lo)).take (HT.sIx xs.length xs.length hi - HT.sIx xs.length 0 lo), Heap.get?_push_size _ rfl⟩
def flatV : V → Bool
 | .non => true
 | .bl _ => true
 | .int _ => true
 | .str _ => true
 | _ => false
def eqV : V → V → Bool
 | .non, .non => true
 | .bl a, .bl b => a == b
 | .bl a, .int b => (if a then 1 else 0) == b
 | .int a, .bl b => a == (if b then 1 else 0)
 | .int a, .int b => a == b
 | .str a, .str b => a == b
 | _, _ => false
theorem eqAt_V {A : Around} {s : Shared} {y x : V} {u v : Value} (ry : RelV y u) (rx : RelV x v) (fy : flatV y = true) (fx : flatV x = true) : SeqAt.EqAt A s u v (eqV y x) := by
 cases y with
 | non =>
  cases ry
  cases x with
  | non => cases rx; exact SeqAt.EqAt.same _
  | bl b => cases rx; exact SeqAt.EqAt.none_bool b
  | int b => obtain ⟨t, rfl⟩ := rx; exact SeqAt.EqAt.none_int b t
  | str b => obtain ⟨t, rfl⟩ := rx; exact SeqAt.EqAt.none_str b t
  | _ => exact absurd (show false = true from fx) Bool.false_ne_true
 | bl a =>
  cases ry
  cases x with
  | non => cases rx; exact SeqAt.EqAt.bool_none a
  | bl b => cases rx; exact SeqAt.EqAt.bool_bool a b
  | int b => obtain ⟨t, rfl⟩ := rx; exact SeqAt.EqAt.bool_int a b t
  | str b => obtain ⟨t, rfl⟩ := rx; exact SeqAt.EqAt.bool_str a b t
  | _ => exact absurd (show false = true from fx) Bool.false_ne_true
 | int a =>
  obtain ⟨t', rfl⟩ := ry
  cases x with
  | non => cases rx; exact SeqAt.EqAt.int_none a t'
  | bl b => cases rx; exact SeqAt.EqAt.int_bool a t' b
  | int b => obtain ⟨t, rfl⟩ := rx; exact SeqAt.EqAt.int_int a t' b t
  | str b => obtain ⟨t, rfl⟩ := rx; exact SeqAt.EqAt.int_str a t' b t
  | _ => exact absurd (show false = true from fx) Bool.false_ne_true
 | str a =>
  obtain ⟨t', rfl⟩ := ry
  cases x with
  | non => cases rx; exact SeqAt.EqAt.str_none a t'
  | bl b => cases rx; exact SeqAt.EqAt.str_bool a t' b
  | int b => obtain ⟨t, rfl⟩ := rx; exact SeqAt.EqAt.str_int a t' b t
  | str b => obtain ⟨t, rfl⟩ := rx; exact SeqAt.EqAt.str_str a t' b t
  | _ => exact absurd (show false = true from fx) Bool.false_ne_true
 | _ => exact absurd (show false = true from fy) Bool.false_ne_true
def eqU (x : V) (u : Value) : Bool := match u with
 | .none => eqV .non x
 | .bool b => eqV (.bl b) x
 | .int i _ => eqV (.int i) x
 | .str z _ => eqV (.str z) x
 | _ => false
theorem eqU_of {x y : V} {u : Value} (r : RelV y u) (f : flatV y = true) : eqU x u = eqV y x := by
 cases y with
 | non => cases r; rfl
 | bl b => cases r; rfl
 | int i => obtain ⟨t, rfl⟩ := r; rfl
 | str z => obtain ⟨t, rfl⟩ := r; rfl
 | _ => exact absurd (show false = true from f) Bool.false_ne_true
theorem any_eqU {x : V} : ∀ {xs : List V} {us : List Value}, Vals xs us → xs.all flatV = true → us.any (eqU x) = xs.any fun y => eqV y x
 | _, _, .nil, _ => rfl
 | y :: xs, u :: us, .cons r t, f => by
  rw [List.all_cons, Bool.and_eq_true] at f
  rw [List.any_cons, List.any_cons, eqU_of r f.1, any_eqU t f.2]
theorem mem_eqAt {A : Around} {s : Shared} {x : V} {v : Value} (rx : RelV x v) (fx : flatV x = true) : ∀ {xs : List V} {us : List Value}, Vals xs us → xs.all flatV = true → ∀ u ∈ us, SeqAt.EqAt A s u v (eqU x u)
 | _, _, .nil, _ => fun u hu => by cases hu
 | y :: xs, u :: us, .cons r t, f => fun u' hu => by
  rw [List.all_cons, Bool.and_eq_true] at f
  rcases List.mem_cons.mp hu with rfl | hu
  ·rw [eqU_of r f.1]; exact eqAt_V r rx f.1 fx
  ·exact mem_eqAt rx fx t f.2 u' hu
def inV (x : V) (xs : List V) : Bool := xs.any fun y => eqV y x
def rIn (K : PySem.W.Frag) (neg : Bool) : R2 := fun x y H Q => ∃ p xs, y = .ref p ∧ (SqL K H p xs ∨ SqT K H p xs) ∧ flatV x = true ∧ xs.all flatV = true ∧ Q (.bl (if neg then !inV x xs else inV x xs)) H
theorem op_in_seq : OpR X (compareOp .In) (rIn X.K false) := by
 intro pins s σ H x y v u Q I rx ry h
 obtain ⟨p, xs, rfl, hq, fx, fs, q⟩ := h
 cases ry
 rcases hq with hq | hq
 ·obtain ⟨its, r, pl, hz⟩ := I.list hq
  refine SeqAt.in_listAt (eqU x) pl.isList (fun w hw => mem_eqAt rx fx r fs w (by simpa using hw)) ⟨.bl _, H, I, rfl, ?_⟩
  rw [show its.toArray.any (eqU x) = its.any (eqU x) by simp, any_eqU r fs]
  exact q
 ·obtain ⟨its, r, pl, hz⟩ := I.tuple hq
  refine SeqAt.in_tupleAt (eqU x) pl (fun w hw => mem_eqAt rx fx r fs w (by simpa using hw)) ⟨.bl _, H, I, rfl, ?_⟩
  rw [show its.toArray.any (eqU x) = its.any (eqU x) by simp, any_eqU r fs]
  exact q
theorem op_notIn_seq : OpR X (compareOp .NotIn) (rIn X.K true) := by
 intro pins s σ H x y v u Q I rx ry h
 obtain ⟨p, xs, rfl, hq, fx, fs, q⟩ := h
 cases ry
 rcases hq with hq | hq
 ·obtain ⟨its, r, pl, hz⟩ := I.list hq
  refine SeqAt.notIn_listAt (eqU x) pl.isList (fun w hw => mem_eqAt rx fx r fs w (by simpa using hw)) ⟨.bl _, H, I, rfl, ?_⟩
  rw [show its.toArray.any (eqU x) = its.any (eqU x) by simp, any_eqU r fs]
  exact q
 ·obtain ⟨its, r, pl, hz⟩ := I.tuple hq
  refine SeqAt.notIn_tupleAt (eqU x) pl (fun w hw => mem_eqAt rx fx r fs w (by simpa using hw)) ⟨.bl _, H, I, rfl, ?_⟩
  rw [show its.toArray.any (eqU x) = its.any (eqU x) by simp, any_eqU r fs]
  exact q
theorem call_len_seq : CallR X (.builtin "len") (fun xs H Q => ∃ p ys, xs = [.ref p] ∧ (SqL X.K H p ys ∨ SqT X.K H p ys) ∧ Q (.int ys.length) H) := by
 intro pins s σ H xs us Q I r h
 obtain ⟨p, ys, rfl, hq, q⟩ := h
 obtain ⟨u, rfl, rx⟩ := vals1 r
 cases rx
 have hn := line63
 rcases hq with hq | hq
 ·obtain ⟨its, r', pl, hz⟩ := I.list hq
  have hlen := r'.length
  exact Calls.call_len_list pl.isList (by simp only [List.size_toArray] <;> omega) ⟨.int ys.length, H, I.tok _, ⟨s.toks + 1, by rw [List.size_toArray, hlen]⟩, q⟩
 ·obtain ⟨its, r', pl, hz⟩ := I.tuple hq
  have hlen := r'.length
  exact len_tuple pl (by simp only [List.size_toArray] <;> omega) ⟨.int ys.length, H, I.tok _, ⟨s.toks + 1, by rw [List.size_toArray, hlen]⟩, q⟩
theorem call_list_of : CallR X (.type "list") (fun xs H Q => ∃ p ys, xs = [.ref p] ∧ (SqL X.K H p ys ∨ SqT X.K H p ys) ∧ ∀ l, H l = none → Q (.ref l) (upd H l (.lst ys))) := by
 intro pins s σ H xs us Q I r h
 obtain ⟨p, ys, rfl, hq, q⟩ := h
 obtain ⟨u, rfl, rx⟩ := vals1 r
 cases rx
 have fin : ∀ (its : List Value), Vals ys its → ys.length ≤ sizeLine → ∀ (h' : Heap) (c' : Nat), (∀ b o', s.heap.get? b = some o' → h'.get? b = some o') →
   h'.get? s.heap.objs.size = some { cls := .type "list", dict := none, data := .seq its.toArray c', slots := #[] } → EP X pins σ Q (.ref s.heap.objs.size) { s with heap := h' } := fun its r' hz h' c' kp e =>
  ⟨.ref s.heap.objs.size, _, I.laid (t' := s.toks) kp (Nat.le_refl _) (show ObjOk X.prog X.w _ h' _ (.lst ys) from ⟨hz, its, c', r', e⟩), rfl, q _ (I.hok.fresh (Nat.le_refl _))⟩
 rcases hq with hq | hq
 ·obtain ⟨its, r', pl, hz⟩ := I.list hq
  have hlen := r'.length
  obtain ⟨o, ho, hc, n, hd⟩ := pl.isList
  exact call_list_seq p (.inl rfl) ho hc hd (fun h' c' kp e => fin its r' hz h' c' kp e) (by simp only [List.size_toArray] <;> omega)
 ·obtain ⟨its, r', pl, hz⟩ := I.tuple hq
  have hlen := r'.length
  obtain ⟨o, ho, hc, n, hd⟩ := pl
  exact call_list_seq p (.inr rfl) ho hc hd (fun h' c' kp e => fin its r' hz h' c' kp e) (by simp only [List.size_toArray] <;> omega)
theorem call_tuple_of : CallR X (.type "tuple") (fun xs H Q => ∃ p ys, xs = [.ref p] ∧ ((SqL X.K H p ys ∧ ∀ l, H l = none → Q (.ref l) (upd H l (.tup ys))) ∨ (SqT X.K H p ys ∧ Q (.ref p) H))) := by
 intro pins s σ H xs us Q I r h
 obtain ⟨p, ys, rfl, h⟩ := h
 obtain ⟨u, rfl, rx⟩ := vals1 r
 cases rx
 rcases h with ⟨hq, q⟩ | ⟨hq, q⟩
 ·obtain ⟨its, r', pl, hz⟩ := I.list hq
  have hlen := r'.length
  refine call_tuple_list pl.isList (fun h' kp => ?_) (by simp only [List.size_toArray] <;> omega)
  have I1 : Inv X pins σ H { s with heap := h' } := I.kept (t' := s.toks) kp
  have I2 : Inv X pins σ (upd H h'.objs.size (.tup ys)) { s with heap := h'.push { cls := .type "tuple", data := .seq its.toArray } } :=
   I1.laid (t' := s.toks) (fun b o e => Heap.get?_push_of_some _ e) (Nat.le_refl _) (show ObjOk X.prog X.w _ _ _ (.tup ys) from ⟨hz, its, r', IsTup.new _ _⟩)
  exact ⟨.ref h'.objs.size, _, I2, rfl, q _ (I1.hok.fresh (Nat.le_refl _))⟩
 ·obtain ⟨its, r', pl, hz⟩ := I.tuple hq
  exact call_tuple_same pl ⟨.ref p, H, I, rfl, q⟩
def tyV (K : PySem.W.Frag) (T : String) (x : V) (H : Hp) : Prop := match x with
 | .str _ => T = "str"
 | .int _ => T = "int"
 | .ref p => (T = "list" ∧ ∃ xs, SqL K H p xs) ∨ (T = "tuple" ∧ ∃ o, K.lookup p = some o ∧ o.cls = .type "tuple" ∧ o.dict = none) ∨
   (T = "dict" ∧ ((∃ kvs, H p = some (.dK kvs)) ∨ ∃ kvs, H p = some (.dT kvs))) ∨ (T = "set" ∧ ∃ S n, H p = some (.set S n))
 | _ => False
theorem tyV_is {pins : List (Addr × Obj)} {σ : St} {H : Hp} {s : Shared} {T : String} {x : V} {v : Value} (I : Inv X pins σ H s) (r : RelV x v) (ty : tyV X.K T x H) :
  s.TypeIs v T ∧ ∀ a, v = .ref a → ∃ ob, s.heap.get? a = some ob ∧ ob.dict = none := by
 cases x with
 | str z =>
  obtain ⟨t, rfl⟩ := r
  cases (show T = "str" from ty)
  exact ⟨typeIs_str s z t, fun _ e => nomatch e⟩
 | int i =>
  obtain ⟨t, rfl⟩ := r
  cases (show T = "int" from ty)
  exact ⟨typeIs_int s i t, fun _ e => nomatch e⟩
 | ref p =>
  cases r
  rcases ty with ⟨rfl, xs, hq⟩ | ⟨rfl, o, hk, hc, hd⟩ | ⟨rfl, hk⟩ | ⟨rfl, S, n, hk⟩
  ·obtain ⟨its, _, pl, _⟩ := I.list hq
   refine ⟨pl.isList.typeIs, fun a e => ?_⟩
   cases e
   obtain ⟨o, n, e, c, hd, _⟩ := pl
   exact ⟨o, e, hd⟩
  ·refine ⟨⟨o, I.kIn p o hk, hc⟩, fun a e => ?_⟩
   cases e
   exact ⟨o, I.kIn _ o hk, hd⟩
  ·have z : ∃ o, s.heap.get? p = some o ∧ o.ExactDict := by
    rcases hk with ⟨kvs, hk⟩ | ⟨kvs, hk⟩
    ·obtain ⟨_, _, _, _, o, _, _, e, ex, _⟩ := I.hok p _ hk
     exact ⟨o, e, ex⟩
    ·obtain ⟨_, _, _, _, o, _, _, e, ex, _⟩ := I.hok p _ hk
     exact ⟨o, e, ex⟩
   obtain ⟨o, e, ex⟩ := z
   refine ⟨⟨o, e, ex.1⟩, fun a e2 => ?_⟩
   cases e2
   exact ⟨o, e, ex.2.1⟩
  ·obtain ⟨o, _, _, _, e, ex, _⟩ := I.hok p _ hk
   refine ⟨⟨o, e, ex.1⟩, fun a e2 => ?_⟩
   cases e2
   exact ⟨o, e, ex.2.1⟩
 | _ => exact False.elim ty
def tBM0 (K : PySem.W.Frag) (T : String) (r : V → List V → Hp → VK → Prop) (to : TE) : TE := fun σ H Q => to σ H fun x H1 => tyV K T x H1 ∧ r x [] H1 Q
def tBM (K : PySem.W.Frag) (T : String) (r : V → List V → Hp → VK → Prop) (to : TE) (t : TA) : TE := fun σ H Q => to σ H fun x H1 => tyV K T x H1 ∧ t σ H1 fun xs H2 => r x xs H2 Q
variable {o e : Expr} {es : List Expr} {to : TE} {t : TA} {name : Str} {apos cpos : Pos} {T id : String} {r : V → List V → Hp → VK → Prop}
theorem pe_bm0 (pa : PlainAttrs T) (slot : Slot T name id) (hty : typeOf (.builtin id) = pure (.type "method_descriptor")) (hm : MtR X id r) (ho : PE X o to)
  (hbase : attributeBase o name X.env (eval o X.env) = eval o X.env := by rfl) (hline : (apos.endLine == cpos.line) = true := by rfl) : PE X (.Call (.Attribute o name apos) [] [] cpos) (tBM0 X.K T r to) := by
 intro pins s σ H Q I h
 refine wpAny_Call_method0_late hbase hline (thn (ho pins s σ H _ I h) fun v s1 ⟨x, H1, I1, r1, ty, q1⟩ => ?_)
 obtain ⟨h1, h2⟩ := tyV_is I1 r1 ty
 exact ⟨T, id, pa, slot, hty, h1, h2, Calls.callWith_builtin rfl (PySem.evalArgs_none (hm pins s1 σ H1 x [] v [] Q I1 r1 .nil q1))⟩
theorem pe_bm (pa : PlainAttrs T) (slot : Slot T name id) (hty : typeOf (.builtin id) = pure (.type "method_descriptor")) (hm : MtR X id r) (ho : PE X o to) (ha : PA X (e :: es) t)
  (hbase : attributeBase o name X.env (eval o X.env) = eval o X.env := by rfl)
  (hfew : ((backTo cpos (starEach (e :: es) X.env)).all (fun x => !x.1) && (backToKw cpos (keywordEach [] X.env)).all (fun x => x.1.isSome)
   && decide ((e :: es).length + ([] : List Keyword).length + (if ([] : List Keyword).isEmpty then 0 else 1) < 30)) = true := by rfl)
  (hline : (apos.endLine == cpos.line) = true := by rfl) (hs : starEach (e :: es) X.env = (false, eval e X.env) :: starEach es X.env := by rfl) (hplain : (backTo cpos (starEach es X.env)).any (·.1) = false := by rfl) :
  PE X (.Call (.Attribute o name apos) (e :: es) [] cpos) (tBM X.K T r to t) := by
 intro pins s σ H Q I h
 refine wpAny_Call_method_late hbase hfew hline rfl (thn (ho pins s σ H _ I h) fun v s1 ⟨x, H1, I1, r1, ty, q1⟩ => ?_)
 obtain ⟨h1, h2⟩ := tyV_is I1 r1 ty
 refine ⟨T, id, pa, slot, hty, h1, h2, ?_⟩
 have hA := ha cpos pins s1 σ H1 _ I1 q1
 rw [hs] at hA ⊢
 refine Calls.callWith_builtin (by show (false || (backTo cpos (starEach es X.env)).any (·.1)) = false; rw [hplain] <;> rfl) (Calls.evalArgs_plain ?_)
 exact thn hA fun us s2 ⟨vs, H2, I2, r2, q2⟩ => hm pins s2 σ H2 x vs v us Q I2 r1 r2 q2
end
end L2
namespace L2
open PySem PySem.Spec PyProof.Rows
def MtM (X : Cx) (id : String) (r : V → List V → Hp → VK → Prop) : Prop :=
 ∀ (pins : List (Addr × Obj)) (s : Shared) (σ : St) (H : Hp) (x : V) (xs : List V) (v : Value) (us : List Value) (Q : VK), Inv X pins σ H s → RelV x v → Vals xs us → r x xs H Q →
  wpAny (model X.prog X.w) X.A (call (.builtin id) (v :: us)) (EP X pins σ Q) X.xe s
theorem Vals.one : ∀ {x : V} {us : List Value}, Vals [x] us → ∃ u, us = [u] ∧ RelV x u
 | _, _, .cons r .nil => ⟨_, rfl, r⟩
theorem Vals.zero : ∀ {us : List Value}, Vals [] us → us = []
 | _, .nil => rfl
theorem Vals.dropLast {xs : List V} {us : List Value} (h : Vals xs us) : Vals xs.dropLast us.dropLast := by
 induction h with
 | nil => exact .nil
 | cons r t ih =>
  cases t with
  | nil => exact .nil
  | cons q t' => exact .cons r ih
theorem Vals.rep {xs : List V} {us : List Value} (h : Vals xs us) : ∀ k : Nat, Vals (List.replicate k xs).flatten (List.replicate k us).flatten
 | 0 => .nil
 | k + 1 => by
  rw [List.replicate_succ, List.replicate_succ, List.flatten_cons, List.flatten_cons]
  exact Vals.append h (Vals.rep h k)
theorem erase_last {α : Type} (l : List α) : l.eraseIdx (l.length - 1) = l.dropLast := by
 induction l with
 | nil => rfl
 | cons a r ih =>
  cases r with
  | nil => rfl
  | cons b r =>
   have e : (a :: b :: r).length - 1 = ((b :: r).length - 1) + 1 := by
    have h1 : (a :: b :: r).length = r.length + 2 := rfl
    have h2 : (b :: r).length = r.length + 1 := rfl
    omega
   rw [e, List.eraseIdx_cons_succ, ih]
   all_goals rfl
theorem foldl_rep (its : List Value) : ∀ (k : Nat) (acc : List Value),
  List.foldl (fun x1 x2 => x1 ++ x2) acc.toArray (List.replicate k its.toArray) = (acc ++ (List.replicate k its).flatten).toArray
 | 0, acc => by simp
 | k + 1, acc => by
  have e : acc.toArray ++ its.toArray = (acc ++ its).toArray := by simp
  have e2 : (acc ++ its) ++ (List.replicate k its).flatten = acc ++ (List.replicate (k + 1) its).flatten := by
   rw [List.replicate_succ, List.flatten_cons, List.append_assoc]
  rw [← e2, ← foldl_rep its k (acc ++ its), ← e, List.replicate_succ, List.foldl_cons]
section
variable {X : Cx} {pins : List (Addr × Obj)} {σ : St} {H : Hp} {s : Shared} {l b : Addr} {xs ys zs : List V}
theorem Inv.lset {its its' : List Value} {n : Nat} {f : Array Value → Array Value} {t' : Nat} (I : Inv X pins σ H s) (hH : H l = some (.lst xs))
  (e : s.heap.get? l = some { cls := .type "list", data := .seq its.toArray n }) (hf : f its.toArray = its'.toArray) (hv : Vals ys its') (hz : ys.length ≤ sizeLine) :
  Inv X pins σ (upd H l (.lst ys)) { s with heap := s.heap.update l (Obj.mapSeq f), toks := t' } := by
 have q := PySem.IsL.update e f
 rw [hf] at q
 refine I.write (x := l) (e := l) (by rw [hH]; exact trivial) (.inl rfl) (fun b' u hb hu => (Heap.get?_update_other s.heap (Obj.mapSeq f) (Ne.symm hb)).trans hu) ⟨_, q⟩ ?_
 exact ⟨hz, its', _, hv, q⟩
theorem Inv.lnew {its : List Value} {t' : Nat} (I : Inv X pins σ H s) (hv : Vals ys its) (hz : ys.length ≤ sizeLine) :
  Inv X pins σ (upd H s.heap.objs.size (.lst ys)) { s with heap := s.heap.push { cls := .type "list", data := .seq its.toArray }, toks := t' } :=
 I.laid (fun _ _ q => Heap.get?_push_of_some _ q) (Nat.le_refl _) ⟨hz, its, 0, hv, Heap.get?_push_size _ rfl⟩
theorem Inv.fresh (I : Inv X pins σ H s) : H s.heap.objs.size = none := I.hok.fresh (Nat.le_refl _)
theorem Inv.lstM (I : Inv X pins σ H s) (hH : H l = some (.lst xs)) : xs.length ≤ sizeLine ∧ ∃ (its : List Value) (n : Nat), Vals xs its ∧ xs.length = its.length ∧ s.heap.get? l = some { cls := .type "list", data := .seq its.toArray n } := by
 obtain ⟨z, its, n, r, e⟩ := I.hok l _ hH
 exact ⟨z, its, n, r, r.length, e⟩
theorem notLongL {n : Nat} (h : n ≤ sizeLine) : Builtin.List.listTooLong n = false := by
 unfold Builtin.List.listTooLong
 exact decide_eq_false (by omega)
end
section
variable {X : Cx}
def rAppend : V → List V → Hp → VK → Prop := fun x vs H Q => ∃ l xs y, x = .ref l ∧ vs = [y] ∧ H l = some (.lst xs) ∧ xs.length < sizeLine ∧ Q .non (upd H l (.lst (xs ++ [y])))
theorem mt_append : MtM X "list.append" rAppend := by
 intro pins s σ H x vs v us Q I rx rv h
 obtain ⟨l, xs, y, rfl, rfl, hH, hz, q⟩ := h
 cases rx
 obtain ⟨u, rfl, ru⟩ := rv.one
 obtain ⟨z, its, n, r, hl, e⟩ := I.lstM hH
 refine call_meets F.slot_list_append ⟨_, e, rfl⟩ F.entry_list_append (F.args_list_append_2 _ _) (PySem.list_append l its.toArray n u (by rw [List.size_toArray]; omega)) ⟨e, ?_⟩
 refine ⟨.non, _, I.lset (its' := its ++ [u]) hH e (by simp) (r.append (.cons ru .nil)) ?_, rfl, q⟩
 rw [List.length_append, List.length_singleton]
 omega
def rExtend : V → List V → Hp → VK → Prop := fun x vs H Q => ∃ l b xs zs, x = .ref l ∧ vs = [.ref b] ∧ H l = some (.lst xs) ∧ H b = some (.lst zs) ∧ xs.length + zs.length ≤ sizeLine ∧ Q .non (upd H l (.lst (xs ++ zs)))
theorem mt_extend : MtM X "list.extend" rExtend := by
 intro pins s σ H x vs v us Q I rx rv h
 obtain ⟨l, b, xs, zs, rfl, rfl, hH, hB, hz, q⟩ := h
 cases rx
 obtain ⟨u, rfl, ru⟩ := rv.one
 cases ru
 obtain ⟨z, its, n, r, hl, e⟩ := I.lstM hH
 obtain ⟨z2, its2, n2, r2, hl2, e2⟩ := I.lstM hB
 have hsz : its.toArray.size + its2.toArray.size ≤ sizeLine := by rw [List.size_toArray, List.size_toArray]; omega
 have hlong : ¬ (!its.toArray.isEmpty && Builtin.List.listTooLong (its.toArray.size + its2.toArray.size)) = true := by
  rw [notLongL hsz, Bool.and_false]
  exact Bool.false_ne_true
 refine call_meets F.slot_list_extend ⟨_, e, rfl⟩ F.entry_list_extend (F.args_list_extend_2 _ _)
  (AutoSeq1.list_extend_list_list_0 l its.toArray n b its2.toArray n2 hlong (by rw [List.size_toArray]; omega) (by omega)) ⟨e, e2, ?_⟩
 refine ⟨.non, _, I.lset (its' := its ++ its2) hH e (by simp) (r.append r2) ?_, rfl, q⟩
 rw [List.length_append]
 omega
def rPop : V → List V → Hp → VK → Prop := fun x vs H Q => ∃ l xs y, x = .ref l ∧ vs = [] ∧ H l = some (.lst xs) ∧ xs[xs.length - 1]? = some y ∧ Q y (upd H l (.lst xs.dropLast))
theorem mt_pop : MtM X "list.pop" rPop := by
 intro pins s σ H x vs v us Q I rx rv h
 obtain ⟨l, xs, y, rfl, rfl, hH, hy, q⟩ := h
 cases rx
 have hus := rv.zero
 subst hus
 obtain ⟨z, its, n, r, hl, e⟩ := I.lstM hH
 obtain ⟨u, hu, ru⟩ := r.get hy
 have hy' : its.toArray[its.toArray.size - 1]? = some u := by
  show its.toArray[its.length - 1]? = some u
  rw [← Array.getElem?_toList, ← hl]
  exact hu
 refine call_meets F.slot_list_pop ⟨_, e, rfl⟩ F.entry_list_pop (F.args_list_pop_1 _) (MeetsSeq.list_pop_last l its.toArray n u hy' (by rw [List.size_toArray]; omega)) ⟨e, ?_⟩
 refine ⟨y, _, I.lset (its' := its.dropLast) hH e ?_ r.dropLast ?_, ru, q⟩
 ·show its.toArray.eraseIdxIfInBounds (its.toArray.size - 1) = its.dropLast.toArray
  rw [List.size_toArray, List.eraseIdxIfInBounds_toArray, erase_last]
 ·rw [List.length_dropLast]
  omega
def rCat : R2 := fun x y H Q => ∃ l b xs zs, x = .ref l ∧ y = .ref b ∧ H l = some (.lst xs) ∧ H b = some (.lst zs) ∧ xs.length + zs.length ≤ sizeLine ∧ ∀ p, H p = none → Q (.ref p) (upd H p (.lst (xs ++ zs)))
theorem op_cat : OpR X (binaryOp .Add) rCat := by
 intro pins s σ H x y v u Q I rx ry h
 obtain ⟨l, b, xs, zs, rfl, rfl, hH, hB, hz, q⟩ := h
 cases rx
 cases ry
 obtain ⟨z, its, n, r, hl, e⟩ := I.lstM hH
 obtain ⟨z2, its2, n2, r2, hl2, e2⟩ := I.lstM hB
 refine PySem.P.add_list e e2 ?_ (by rw [List.size_toArray, List.size_toArray]; omega)
 have ea : its.toArray ++ its2.toArray = (its ++ its2).toArray := by simp
 rw [ea]
 exact ⟨.ref _, _, I.lnew (t' := s.toks) (r.append r2) (by rw [List.length_append]; omega), rfl, q _ I.fresh⟩
def rRep : R2 := fun x y H Q => ∃ l k xs, x = .ref l ∧ y = .int k ∧ H l = some (.lst xs) ∧ -(2 ^ 63) ≤ k ∧ k < 2 ^ 63 ∧ xs.length * k.toNat ≤ sizeLine ∧
 ∀ p, H p = none → Q (.ref p) (upd H p (.lst (List.replicate k.toNat xs).flatten))
theorem len_rep {α : Type} (xs : List α) (k : Nat) : (List.replicate k xs).flatten.length = k * xs.length := by
 induction k with
 | zero => simp
 | succ k ih => rw [List.replicate_succ, List.flatten_cons, List.length_append, ih, Nat.succ_mul, Nat.add_comm]
theorem op_rep : OpR X (binaryOp .Mult) rRep := by
 intro pins s σ H x y v u Q I rx ry h
 obtain ⟨l, k, xs, rfl, rfl, hH, h1, h2, hz, q⟩ := h
 cases rx
 obtain ⟨t, rfl⟩ := ry
 obtain ⟨z, its, n, r, hl, e⟩ := I.lstM hH
 have hlen : its.toArray.size * k.toNat ≤ sizeLine := by rw [List.size_toArray, ← hl]; exact hz
 have hcap : ¬ its.toArray.size * k.toNat > (2 ^ 63 - 1) / 8 := by
  have : (sizeLine : Nat) ≤ (2 ^ 63 - 1) / 8 := by decide
  omega
 have hfit : ¬ (!Builtin.List.listFitsIndex k) = true := by
  rw [fitsIndex_both h1 h2]
  exact Bool.false_ne_true
 have hlong : ¬ Builtin.List.listTooLong (its.toArray.size * k.toNat) = true := by
  rw [notLongL hlen]
  exact Bool.false_ne_true
 have hnew : List.foldl (fun x1 x2 => x1 ++ x2) #[] (List.replicate (if its.toArray.isEmpty = true then 0 else k.toNat) its.toArray) = (List.replicate k.toNat its).flatten.toArray := by
  have f0 : ∀ m : Nat, List.foldl (fun x1 x2 => x1 ++ x2) #[] (List.replicate m its.toArray) = (List.replicate m its).flatten.toArray := fun m => by
   have := foldl_rep its m []
   rw [List.nil_append] at this
   exact this
  rw [f0]
  cases its with
  | nil => simp
  | cons a r' => rw [if_neg (by simp)]
 refine wpAny_binaryOp_repeat_ref (T := "list") (U := "int") (by decide) ⟨_, e, rfl⟩ (fun s' => typeIs_int s' k t) noFill_list_mul F.fills_int_mul F.slot_int_rmul repeat_list F.slot_int_index.lookup
  (call_meets F.slot_int_rmul (typeIs_int s k t) F.entry_int_rmul (F.args_int_rmul_2 _ _) (int___rmul___int_list k t l its.toArray n)
   ⟨e, rfl, ⟨_, e, rfl⟩, call_meets F.slot_list_mul ⟨_, e, rfl⟩ F.entry_list_mul (F.args_list_mul_2 _ _) (AutoListH.list___mul___list_int_3 l its.toArray n k t hfit hcap hlong) ⟨e, ?_⟩⟩)
 rw [hnew]
 exact ⟨.ref _, _, I.lnew (t' := s.toks) (r.rep k.toNat) (by rw [len_rep, Nat.mul_comm]; exact hz), rfl, q _ I.fresh⟩
end
section
variable {prog : Program} {w : World} {A : Around} {E : Value → Shared → Prop} {s : Shared}
set_option maxRecDepth 100000 in
end
section
variable {X : Cx}
end
end L2
namespace L2
open PySem PySem.Spec PyProof.Rows
theorem vals_of_ints : ∀ {us : List Value} {ns : List Int}, IntsAre us ns → Vals (ns.map V.int) us
 | _, _, .nil => by rw [List.map_nil]; exact Paired.nil
 | _, _, .cons n t h => by rw [List.map_cons]; exact Paired.cons (show RelV (V.int n) (Value.int n t) from ⟨t, rfl⟩) (vals_of_ints h)
theorem Vals.bls : ∀ {bs : List Bool} {us : List Value}, Vals (bs.map V.bl) us → us = bs.map Value.bool
 | [], us, h => by
  rw [List.map_nil] at h
  cases h
  rfl
 | b :: bs, us, h => by
  rw [List.map_cons] at h
  cases h with
  | cons r t =>
   cases r
   rw [Vals.bls t, List.map_cons]
theorem Vals.ref1 {a : Addr} {us : List Value} (r : Vals [V.ref a] us) : us = [Value.ref a] := by
 cases r with
 | cons r t =>
  cases t
  cases r
  rfl
section
variable {prog : Program} {w : World} {A : Around} {E : Value → Shared → Prop} {s : Shared} {l : Addr} {its : List Value} {ns : List Int} {Q : Value → Shared → Prop}
end
section
variable {X : Cx}
end
section
variable {X : Cx}
def rIndex (K : PySem.W.Frag) : V → List V → Hp → VK → Prop := fun x xs H Q => ∃ (a : Addr) (ys : List V) (y : V) (j : Nat) (z : V), x = V.ref a ∧ xs = [y] ∧ SqL K H a ys ∧ flatV y = true ∧ ys.all flatV = true ∧ ys[j]? = some z ∧ eqV z y = true ∧
 (∀ (m : Nat) (z' : V), m < j → ys[m]? = some z' → eqV z' y = false) ∧ Q (.int (j : Nat)) H
theorem flat_at {ys : List V} (f : ys.all flatV = true) {j : Nat} {z : V} (h : ys[j]? = some z) : flatV z = true := List.all_eq_true.mp f z (List.mem_of_getElem? h)
theorem mt_index : MtR X "list.index" (rIndex X.K) := by
 intro pins s σ H x xs v us Q I rx rxs h
 obtain ⟨a, ys, y, j, z, rfl, rfl, hs, fy, fys, hz, hzj, hno, q⟩ := h
 cases rx
 cases rxs with
 | cons ry rt =>
  rename_i uy ut
  cases rt
  obtain ⟨its, rv, ⟨⟨cls, dd, data, sl⟩, n, ho, hc, hdn, hd⟩, hlen⟩ := I.list hs
  simp only at hc hd
  subst hc hd
  obtain ⟨u, hu, ru⟩ := rv.get hz
  obtain ⟨hjl, hje⟩ := List.getElem?_eq_some_iff.mp hu
  have hvl := rv.length
  have hj : j < its.toArray.size := by simpa using hjl
  have hsl := sizeLine_eq
  refine call_meets PySem.F.slot_list_index ⟨_, ho, rfl⟩ PySem.F.entry_list_index (PySem.F.args_list_index_2 _ _)
   (SeqAt.list_indexAt a its.toArray n dd sl uy (eqU y) j hj (by omega) ?_ ?_) ⟨ho, fun u' hu' => mem_eqAt ry fy rv fys u' (by simpa using hu'), ?_⟩
  ·have e1 : its.toArray[j] = u := by simpa using hje
   rw [e1, eqU_of ru (flat_at fys hz)]
   exact hzj
  ·intro m hm hmj
   have hml : m < its.length := by simpa using hm
   have hmy : m < ys.length := by omega
   have hy' : ys[m]? = some ys[m] := List.getElem?_eq_getElem hmy
   obtain ⟨u2, hu2, ru2⟩ := rv.get hy'
   obtain ⟨_, hme⟩ := List.getElem?_eq_some_iff.mp hu2
   have e1 : its.toArray[m] = u2 := by simpa using hme
   rw [e1, eqU_of ru2 (flat_at fys hy')]
   exact hno m _ hmj hy'
  ·exact ⟨.int (j : Nat), H, I.tok _, ⟨_, rfl⟩, q⟩
end
section
variable {X : Cx}
end
theorem iter_any {prog : Program} {w : World} {A : Around} {E : Value → Shared → Prop} {s : Shared} {l : Addr} {items : Array Value} {Q : Value → Shared → Prop} (hl : s.heap.IsList l items)
  (h : ∀ s₂ : Shared, s₂ = { s with heap := s.heap.push { cls := .type "list_iterator", data := .fields #[.ref l, .int 0 0] } } →
   (s₂.heap.IsListIter s.heap.objs.size l 0 ∧ s₂.heap.IsList l items) → l ≠ s.heap.objs.size → Q (.ref s.heap.objs.size) s₂) : wpAny (model prog w) A (pyIter (.ref l)) Q E s := by
 have hlt : l < s.heap.objs.size := by obtain ⟨_, e, _⟩ := hl; exact Heap.lt_size e
 exact wpAny_pyIter_list hl (h _ rfl ⟨⟨_, Heap.get?_push_size _ rfl, rfl, rfl⟩, hl.push _⟩ (Nat.ne_of_lt hlt))
theorem truth_bools {prog : Program} {w : World} {A : Around} {bs : List Bool} {its : List Value} (e : its = bs.map Value.bool) :
  TruthOf prog w A (fun i v => its.toArray[i]? = some v) (fun i => bs.getD i false) := fun i v s Q E hv hq => by
 have hv' : its[i]? = some v := by simpa using hv
 rw [e, List.getElem?_map] at hv'
 obtain ⟨b, hb, rfl⟩ := Option.map_eq_some_iff.mp hv'
 have hg : bs.getD i false = b := by rw [List.getD_eq_getElem?_getD, hb] <;> rfl
 have hq' : Q (bs.getD i false) s := hq
 rw [hg] at hq'
 exact wpAny_truthy_bool hq'
theorem any_range : ∀ bs : List Bool, (List.range bs.length).any (fun i => bs.getD i false) = bs.any id
 | [] => rfl
 | b :: bs => by
  rw [List.length_cons, List.range_succ_eq_map, List.any_cons, List.any_map, List.any_cons, ← any_range bs]
  all_goals rfl
section
variable {X : Cx}
def rAny (K : PySem.W.Frag) : List V → Hp → VK → Prop := fun vs H Q => ∃ (a : Addr) (bs : List Bool), vs = [V.ref a] ∧ SqL K H a (bs.map V.bl) ∧ Q (.bl (bs.any id)) H
theorem cr_any (hc : X.calm = true) : CallR X (.builtin "any") (rAny X.K) := by
 intro pins s σ H vs us Q I r h
 obtain ⟨a, bs, rfl, hs, q⟩ := h
 obtain ⟨its, rv, hl, _⟩ := I.list hs
 rw [Vals.ref1 r]
 have hb := rv.bls
 refine call_any_walk (iter_any hl.isList fun s₂ e2 st hne => ?_)
 subst e2
 refine ⟨_, _, _, _, _, _, _, rfl, Walks.list (A := X.A.in1) (I.ok.hd hc) _ a hne its.toArray, st, truth_bools hb, fun h' tk hk => ?_⟩
 refine ⟨.bl _, H, I.kept fun b o eo => hk b o (fun hmem => ?_) (Heap.get?_push_of_some _ eo), ?_, q⟩
 ·rcases List.mem_cons.mp hmem with e1 | hmem
  ·exact absurd (e1 ▸ Heap.lt_size eo) (Nat.lt_irrefl _)
  ·cases hmem
 ·show Value.bool _ = Value.bool _
  rw [← any_range, hb, List.size_toArray, List.length_map]
end
mutual
inductive Dp (K : PySem.W.Frag) (H : Hp) : V → PyData → Prop
 | non : Dp K H .non .none
 | bl (b : Bool) : Dp K H (.bl b) (.bool b)
 | int (i : Int) : Dp K H (.int i) (.int i)
 | str (x : Str) : Dp K H (.str x) (.str x)
 | lst {a : Addr} {xs : List V} {ds : List PyData} : SqL K H a xs → DpAll K H xs ds → Dp K H (.ref a) (.list ds)
 | tup {a : Addr} {xs : List V} {ds : List PyData} : SqT K H a xs → DpAll K H xs ds → Dp K H (.ref a) (.tuple ds)
inductive DpAll (K : PySem.W.Frag) (H : Hp) : List V → List PyData → Prop
 | nil : DpAll K H [] []
 | cons {v : V} {vs : List V} {d : PyData} {ds : List PyData} : Dp K H v d → DpAll K H vs ds → DpAll K H (v :: vs) (d :: ds)
end
section
variable {X : Cx} {pins : List (Addr × Obj)} {σ : St} {H : Hp} {s : Shared}
mutual
theorem Dp.reads (I : Inv X pins σ H s) : ∀ (d : PyData) (v : V) (u : Value), Dp X.K H v d → RelV v u → ∃ as, Reads s.heap u d as
 | .none, _, _, h, r => by
  cases h
  cases r
  exact ⟨_, Reads.none⟩
 | .bool b, _, _, h, r => by
  cases h
  cases r
  exact ⟨_, Reads.bool b⟩
 | .int i, _, _, h, r => by
  cases h
  obtain ⟨t, rfl⟩ := r
  exact ⟨_, Reads.int i t⟩
 | .str x, _, _, h, r => by
  cases h
  obtain ⟨t, rfl⟩ := r
  exact ⟨_, Reads.str x t⟩
 | .list ds, _, _, h, r => by
  cases h with
  | lst hs ha =>
   cases r
   obtain ⟨its, rv, ⟨o, n, ho, hc, _, hd⟩, _⟩ := I.list hs
   obtain ⟨as, hr⟩ := Dp.readsAll I ds _ its ha rv
   exact ⟨_, Reads.list ho hc hd hr⟩
 | .tuple ds, _, _, h, r => by
  cases h with
  | tup hs ha =>
   cases r
   obtain ⟨its, rv, ⟨o, ho, hc, n, hd⟩, _⟩ := I.tuple hs
   obtain ⟨as, hr⟩ := Dp.readsAll I ds _ its ha rv
   exact ⟨_, Reads.tuple ho hc hd hr⟩
 | .dict _, _, _, h, _ => by cases h
theorem Dp.readsAll (I : Inv X pins σ H s) : ∀ (ds : List PyData) (vs : List V) (us : List Value), DpAll X.K H vs ds → Vals vs us → ∃ as, ReadsAll s.heap us ds as
 | [], _, _, h, r => by
  cases h
  cases r
  exact ⟨_, ReadsAll.nil⟩
 | d :: ds, _, _, h, r => by
  cases h with
  | cons h1 h2 =>
   cases r with
   | cons r1 r2 =>
    obtain ⟨as, q1⟩ := Dp.reads I d _ _ h1 r1
    obtain ⟨bs, q2⟩ := Dp.readsAll I ds _ _ h2 r2
    exact ⟨_, ReadsAll.cons q1 q2⟩
end
end
section
variable {X : Cx}
def rEqD (K : PySem.W.Frag) : R2 := fun x y H Q => ∃ d e, Dp K H x d ∧ Dp K H y e ∧ SeqAt.shaped d = true ∧ SeqAt.shaped e = true ∧ Q (.bl (PyData.eqv d e)) H
def rNeD (K : PySem.W.Frag) : R2 := fun x y H Q => ∃ d e, Dp K H x d ∧ Dp K H y e ∧ SeqAt.shaped d = true ∧ SeqAt.shaped e = true ∧ Q (.bl (!PyData.eqv d e)) H
theorem op_eqD (hu : X.A.units + 64 < cLine) : OpR X (compareOp .Eq) (rEqD X.K) := by
 intro pins s σ H x y v u Q I rx ry h
 obtain ⟨d, e, hd, he, sd, se, q⟩ := h
 obtain ⟨as, r1⟩ := Dp.reads I d x v hd rx
 obtain ⟨bs, r2⟩ := Dp.reads I e y u he ry
 exact SeqAt.compareEq_shaped r1 r2 sd se hu ⟨.bl _, H, I, rfl, q⟩
theorem op_neD (hu : X.A.units + 64 < cLine) : OpR X (compareOp .NotEq) (rNeD X.K) := by
 intro pins s σ H x y v u Q I rx ry h
 obtain ⟨d, e, hd, he, sd, se, q⟩ := h
 obtain ⟨as, r1⟩ := Dp.reads I d x v hd rx
 obtain ⟨bs, r2⟩ := Dp.reads I e y u he ry
 exact SeqAt.compareNe_shaped r1 r2 sd se hu ⟨.bl _, H, I, rfl, q⟩
end
end L2
namespace L2
open PySem PySem.Spec PyProof.Rows
abbrev CellAt (h : Heap) (c : Addr) (v : Option Value) : Prop := h.IsCell c v
def relS (scope sc : Scope) : Scope :=
 { scope with names := scope.names.map fun (n, k) => if (k == .free && sc.kind == .function && sc.names.lookup n == some .cell) then (n, .cell) else (n, k) }
def cloFrom (cells : List (Str × Addr)) : List (Str × NameKind) → List (Str × Addr) → List (Str × Addr)
 | [], acc => acc
 | (n, k) :: r, acc => if k == .free then cloFrom cells r ((n, (cells.lookup n).getD 0) :: acc) else cloFrom cells r acc
theorem closure_loop (env : Env) (f : Str × NameKind → List (Str × Addr) → Sem (ForInStep (List (Str × Addr))))
  (hf : ∀ n k c, f (n, k) c = if k == .free then (do let a ← cellOf env n; pure (.yield ((n, a) :: c))) else pure (.yield c)) :
  ∀ (names : List (Str × NameKind)) (acc : List (Str × Addr)), (∀ y ∈ names, y.2 = .free → ∃ c, env.cells.lookup y.1 = some c) → forIn names acc f = pure (cloFrom env.cells names acc)
 | [], acc, _ => by rw [List.forIn_nil]; rfl
 | (n, k) :: r, acc, h => by
  rw [List.forIn_cons, hf]
  have ih := fun acc => closure_loop env f hf r acc fun y hy => h y (List.mem_cons_of_mem _ hy)
  unfold cloFrom
  by_cases hk : (k == NameKind.free) = true
  ·rw [if_pos hk, if_pos hk]
   obtain ⟨c, hc⟩ := h (n, k) List.mem_cons_self (by simpa using hk)
   have e : cellOf env n = pure c := by unfold cellOf; rw [hc]
   rw [e]
   have e2 : (env.cells.lookup n).getD 0 = c := by rw [hc]; rfl
   rw [e2]
   exact ih _
  ·rw [if_neg hk, if_neg hk]
   exact ih _
theorem closure_ok {scope : Scope} {env : Env} (h : ∀ y ∈ scope.names, y.2 = .free → ∃ c, env.cells.lookup y.1 = some c) : closureFor scope env = pure (cloFrom env.cells scope.names []) := by
 simp only [closureFor]
 rw [closure_loop env _ (fun n k c => rfl) scope.names [] h]
 rfl
theorem mem_lookup {α : Type} : ∀ {l : List (Str × α)} {n : Str} {c : α}, (n, c) ∈ l → ∃ c', l.lookup n = some c'
 | (k, v) :: r, n, c, h => by
  rw [List.lookup_cons]
  cases hb : n == k with
  | true => exact ⟨_, rfl⟩
  | false =>
   rcases List.mem_cons.mp h with e | h
   ·cases e; simp at hb
   ·exact mem_lookup h
theorem cloFrom_mem {cells : List (Str × Addr)} : ∀ {names : List (Str × NameKind)} {acc : List (Str × Addr)} {n : Str} {c : Addr}, (n, c) ∈ cloFrom cells names acc → (n, c) ∈ acc ∨ ((n, .free) ∈ names ∧ c = (cells.lookup n).getD 0)
 | [], _, _, _, h => .inl h
 | (m, k) :: r, acc, n, c, h => by
  unfold cloFrom at h
  split at h
  ·rename_i hk
   have hk : k = .free := by simpa using hk
   rcases cloFrom_mem h with h | ⟨h1, h2⟩
   ·rcases List.mem_cons.mp h with e | h
    ·cases e; exact .inr ⟨hk ▸ List.mem_cons_self, rfl⟩
    ·exact .inl h
   ·exact .inr ⟨List.mem_cons_of_mem _ h1, h2⟩
  ·rcases cloFrom_mem h with h | ⟨h1, h2⟩
   ·exact .inl h
   ·exact .inr ⟨List.mem_cons_of_mem _ h1, h2⟩
theorem cloFrom_acc {cells : List (Str × Addr)} : ∀ {names : List (Str × NameKind)} {acc : List (Str × Addr)} {p : Str × Addr}, p ∈ acc → p ∈ cloFrom cells names acc
 | [], _, _, h => h
 | (m, k) :: r, acc, p, h => by
  unfold cloFrom
  split
  ·exact cloFrom_acc (List.mem_cons_of_mem _ h)
  ·exact cloFrom_acc h
theorem cloFrom_has {cells : List (Str × Addr)} : ∀ {names : List (Str × NameKind)} {acc : List (Str × Addr)} {n : Str}, (n, .free) ∈ names → (n, (cells.lookup n).getD 0) ∈ cloFrom cells names acc
 | (m, k) :: r, acc, n, h => by
  unfold cloFrom
  rcases List.mem_cons.mp h with e | h
  ·cases e
   exact cloFrom_acc List.mem_cons_self
  ·split
   ·exact cloFrom_has h
   ·exact cloFrom_has h
theorem cells_mem : ∀ {names : List (Str × NameKind)} {h : Heap} {acc : List (Str × Addr)} {x : Str} {c : Addr}, (x, c) ∈ cellsFrom h.objs.size names acc →
  (x, c) ∈ acc ∨ ((x, .cell) ∈ names ∧ h.objs.size ≤ c ∧ CellAt (pushCells h names) c none)
 | [], _, _, _, _, h => .inl h
 | (n, k) :: r, h, acc, x, c, hm => by
  unfold cellsFrom at hm
  unfold pushCells
  split at hm
  ·rename_i hk
   rw [if_pos hk]
   have hk : k = .cell := by simpa using hk
   rw [← Heap.size_push h { cls := .type "cell", data := .cell none }] at hm
   rcases cells_mem hm with hm | ⟨h1, h2, h3⟩
   ·rcases List.mem_cons.mp hm with e | hm
    ·cases e
     exact .inr ⟨hk ▸ List.mem_cons_self, Nat.le_refl _, _, pushCells_keeps r _ _ _ (Heap.get?_push_size _ rfl), rfl⟩
    ·exact .inl hm
   ·rw [Heap.size_push] at h2
    exact .inr ⟨List.mem_cons_of_mem _ h1, Nat.le_of_succ_le h2, h3⟩
  ·rename_i hk
   rw [if_neg hk]
   rcases cells_mem hm with hm | ⟨h1, h2, h3⟩
   ·exact .inl hm
   ·exact .inr ⟨List.mem_cons_of_mem _ h1, h2, h3⟩
theorem cells_acc : ∀ {names : List (Str × NameKind)} {n : Nat} {acc : List (Str × Addr)} {p : Str × Addr}, p ∈ acc → p ∈ cellsFrom n names acc
 | [], _, _, _, h => h
 | (m, k) :: r, n, acc, p, h => by
  unfold cellsFrom
  split
  ·exact cells_acc (List.mem_cons_of_mem _ h)
  ·exact cells_acc h
theorem cells_has : ∀ {names : List (Str × NameKind)} {n : Nat} {acc : List (Str × Addr)} {x : Str}, (x, .cell) ∈ names → ∃ c, (x, c) ∈ cellsFrom n names acc
 | (m, k) :: r, n, acc, x, h => by
  unfold cellsFrom
  rcases List.mem_cons.mp h with e | h
  ·cases e
   exact ⟨n, cells_acc List.mem_cons_self⟩
  ·split
   ·exact cells_has h
   ·exact cells_has h
theorem cells_inj : ∀ {names : List (Str × NameKind)} {h : Heap} {acc : List (Str × Addr)} {x y : Str} {c : Addr}, (∀ p ∈ acc, p.2 < h.objs.size) → (∀ x y c, (x, c) ∈ acc → (y, c) ∈ acc → x = y) →
  (x, c) ∈ cellsFrom h.objs.size names acc → (y, c) ∈ cellsFrom h.objs.size names acc → x = y
 | [], _, _, _, _, _, _, hi, h1, h2 => hi _ _ _ h1 h2
 | (n, k) :: r, h, acc, x, y, c, hl, hi, h1, h2 => by
  unfold cellsFrom at h1 h2
  split at h1
  ·rename_i hk
   rw [if_pos hk] at h2
   rw [← Heap.size_push h { cls := .type "cell", data := .cell none }] at h1 h2
   refine cells_inj (h := h.push _) (fun p hp => ?_) (fun x y c a b => ?_) h1 h2
   ·rw [Heap.size_push]
    rcases List.mem_cons.mp hp with rfl | hp
    ·exact Nat.lt_succ_self _
    ·exact Nat.lt_succ_of_lt (hl p hp)
   ·rcases List.mem_cons.mp a with e | a <;> rcases List.mem_cons.mp b with e' | b
    ·cases e; cases e'; rfl
    ·cases e; exact absurd (hl _ b) (Nat.lt_irrefl _)
    ·cases e'; exact absurd (hl _ a) (Nat.lt_irrefl _)
    ·exact hi _ _ _ a b
  ·rename_i hk
   rw [if_neg hk] at h2
   exact cells_inj hl hi h1 h2
theorem newEnv_comp {M : Model} {A : Around} {E : Value → Shared → Prop} {s : Shared} {scope : Scope} {globals : Addr} {closure : List (Str × Addr)} {qual : Str} {func : Option Addr} {code : Value} {around : Env} {builtins : Addr} {Q : Env → Shared → Prop}
  (h : Q (newEnv scope s.heap.objs.size globals (cellsFrom (s.heap.objs.size + 1) scope.names closure) qual func code (some around) builtins)
   { s with heap := pushCells (s.heap.push { cls := .type "dict", data := .dict #[] }) scope.names }) :
  wpAny M A (newFunctionEnv scope globals closure [] qual func code (some around) builtins) Q E s := by
 simp only [newFunctionEnv, Option.isSome_some, if_true]
 refine wpAny_bind (wpAny_alloc ?_)
 refine wpAny_bind (wpAny_layCells _ (fun n k c => rfl) scope.names closure _ _ ?_)
 rw [show ({ s with heap := s.heap.push { cls := .type "dict", data := .dict #[] } } : Shared).heap.objs.size = s.heap.objs.size + 1 from Heap.size_push ..]
 rw [List.forIn_nil]
 exact wpAny_bind (wpAny_pure (wpAny_pure h))
theorem lookup_relS {sc : Scope} : ∀ {names : List (Str × NameKind)} {x : Str} {k : NameKind},
  (names.map fun (n, k) => if (k == NameKind.free && sc.kind == .function && sc.names.lookup n == some .cell) then (n, NameKind.cell) else (n, k)).lookup x = some k →
  ∃ k', names.lookup x = some k' ∧ (k = k' ∨ (k' = .free ∧ k = .cell))
 | [], _, _, h => by simp at h
 | (n, k₀) :: r, x, k, h => by
  have ih := @lookup_relS sc r x k
  have h' : List.lookup x ((if (k₀ == NameKind.free && sc.kind == .function && sc.names.lookup n == some .cell) = true then (n, NameKind.cell) else (n, k₀)) :: (r.map _)) = some k := h
  cases hx : x == n with
  | true =>
   simp only [List.lookup_cons, hx]
   by_cases hc : (k₀ == NameKind.free && sc.kind == .function && sc.names.lookup n == some .cell) = true
   ·rw [if_pos hc] at h'
    simp only [List.lookup_cons, hx] at h'
    cases h'
    simp only [Bool.and_eq_true, beq_iff_eq] at hc
    exact ⟨k₀, rfl, .inr ⟨hc.1.1, rfl⟩⟩
   ·rw [if_neg hc] at h'
    simp only [List.lookup_cons, hx] at h'
    cases h'
    exact ⟨_, rfl, .inl rfl⟩
  | false =>
   simp only [List.lookup_cons, hx]
   by_cases hc : (k₀ == NameKind.free && sc.kind == .function && sc.names.lookup n == some .cell) = true
   ·rw [if_pos hc] at h'
    simp only [List.lookup_cons, hx] at h'
    exact ih h'
   ·rw [if_neg hc] at h'
    simp only [List.lookup_cons, hx] at h'
    exact ih h'
structure BlkOk (N : List Str) (sc scope : Scope) (own : List (Str × Nat)) : Prop where
 kind : scope.kind = .function
 uniq : ∀ y ∈ scope.names, scope.names.lookup y.1 = some y.2
 ix : ∀ p ∈ own, N[p.2]? = some p.1
 free : ∀ y ∈ scope.names, y.2 = .free → sc.names.lookup y.1 = some .cell ∨ sc.names.lookup y.1 = some .free
 own : ∀ y ∈ scope.names, y.2 = .local ∨ y.2 = .cell → y.1 ∈ own.map (·.1) ∨ y.1 ∉ N
def wipe (σ : St) : List Nat → St
 | [] => σ
 | v :: vs => (wipe σ vs).set v none
theorem wipe_length (σ : St) : ∀ vs : List Nat, (wipe σ vs).length = σ.length
 | [] => rfl
 | v :: vs => by unfold wipe; rw [List.length_set, wipe_length σ vs]
theorem wipe_some {σ : St} {i : Nat} {x : V} : ∀ {vs : List Nat}, (wipe σ vs)[i]? = some (some x) → σ[i]? = some (some x) ∧ i ∉ vs
 | [], h => ⟨h, by simp⟩
 | v :: vs, h => by
  unfold wipe at h
  by_cases hi : v = i
  ·subst hi
   by_cases hv : v < (wipe σ vs).length
   ·rw [List.getElem?_set_self hv] at h; cases h
   ·rw [List.getElem?_eq_none (by simpa using hv)] at h; cases h
  ·rw [List.getElem?_set_ne hi] at h
   obtain ⟨h1, h2⟩ := wipe_some h
   exact ⟨h1, by simp only [List.mem_cons, not_or]; exact ⟨fun e => hi e.symm, h2⟩⟩
abbrev Cx.blk (X : Cx) (s : Shared) (H : Hp) (scope : Scope) (cenv : Env) (fp : List Addr) : Cx := { X with s_0 := s, H_0 := H, env := cenv, outer := X.stack, ex := fp, fn := fun x => scope.names.lookup x == some .cell, pn := [], xe := fun _ _ => False }
section
variable {X : Cx} {pins : List (Addr × Obj)} {σ : St} {H : Hp} {s : Shared}
theorem block_start {scope : Scope} {own : List (Str × Nat)} {fp : List Addr} (I : Inv X pins σ H s) (ok : BlkOk X.N X.env.scope scope own) (hN : X.N.Nodup) (hfp : ∀ b ∈ fp, FpOk X pins H b ∧ b < s.heap.objs.size) :
  Inv (X.blk s H scope (compEnvC scope (cellsFrom (s.heap.objs.size + 1) scope.names (cloFrom X.env.cells scope.names [])) s.heap.objs.size X.env) fp) [] (wipe σ (own.map (·.2))) H { s with heap := pushCells (s.heap.push { cls := .type "dict", data := .dict #[] }) scope.names } := by
 have hfree : ∀ y ∈ scope.names, y.2 = .free → ∃ c, X.env.cells.lookup y.1 = some c := fun y hy e => by
  rcases ok.free y hy e with k | k
  ·exact I.ok.has _ (.inl k)
  ·exact I.ok.has _ (.inr k)
 generalize hcenv : compEnvC scope (cellsFrom (s.heap.objs.size + 1) scope.names (cloFrom X.env.cells scope.names [])) s.heap.objs.size X.env = cenv
 have kp : ∀ b o, s.heap.get? b = some o → (pushCells (s.heap.push { cls := .type "dict", data := .dict #[] }) scope.names).get? b = some o := fun b o e => pushCells_keeps _ _ _ _ (Heap.get?_push_of_some _ e)
 have hL : cenv.locals = s.heap.objs.size := by rw [← hcenv]; rfl
 have hcl : cenv.cells = cellsFrom (s.heap.objs.size + 1) scope.names (cloFrom X.env.cells scope.names []) := by rw [← hcenv]; rfl
 have hsc : cenv.scope = relS scope X.env.scope := by rw [← hcenv]; rfl
 rw [← Heap.size_push s.heap { cls := .type "dict", data := .dict #[] }] at hcl
 have cm : ∀ {y c}, (y, c) ∈ cloFrom X.env.cells scope.names [] → X.env.cells.lookup y = some c ∧ c < s.heap.objs.size := fun {y c} hm => by
  rcases cloFrom_mem hm with hm | ⟨h1, rfl⟩
  ·cases hm
  ·obtain ⟨c, hc⟩ := hfree _ h1 rfl
   rw [hc]
   obtain ⟨w, z⟩ := I.cell _ _ hc
   exact ⟨rfl, z.lt⟩
 have mem : ∀ {y c}, cenv.cells.lookup y = some c → (X.env.cells.lookup y = some c ∧ c < s.heap.objs.size) ∨ (s.heap.objs.size + 1 ≤ c ∧ CellAt (pushCells (s.heap.push { cls := .type "dict", data := .dict #[] }) scope.names) c none) := fun {y c} e => by
  rw [hcl] at e
  rcases cells_mem (PySem.mem_of_lookup e) with hm | ⟨_, h2, h3⟩
  ·exact .inl (cm hm)
  ·rw [Heap.size_push] at h2; exact .inr ⟨h2, h3⟩
 have look : ∀ {y}, scope.names.lookup y = some .free → ∃ c, cenv.cells.lookup y = some c ∧ X.env.cells.lookup y = some c := fun {y} hl => by
  have hy : (y, NameKind.free) ∈ scope.names := PySem.mem_of_lookup hl
  obtain ⟨c', e'⟩ := mem_lookup (cells_acc (names := scope.names) (n := (s.heap.push { cls := .type "dict", data := .dict #[] }).objs.size) (cloFrom_has (cells := X.env.cells) (acc := []) hy))
  rw [← hcl] at e'
  refine ⟨c', e', ?_⟩
  rw [hcl] at e'
  rcases cells_mem (PySem.mem_of_lookup e') with hm | ⟨h1, _, _⟩
  ·exact (cm hm).1
  ·have := ok.uniq _ h1
   rw [hl] at this; cases this
 have okB : (X.blk s H scope cenv fp).Ok := by
  refine ⟨I.ok.mod, by show cenv.scope.kind = _; rw [hsc]; exact ok.kind, by show cenv.globals = _; rw [← hcenv]; exact I.ok.glob, by show cenv.builtins = _; rw [← hcenv]; exact I.ok.blt, by show s.heap.objs.size ≤ cenv.locals; rw [hL]; exact Nat.le_refl _,
   fun y z c e1 e2 => ?_, fun y hy => ?_, fun y c z e => ?_, I.ok.hd, I.ok.frames, .inl rfl, fun b hb => ⟨?_, fun y c e z => ?_⟩, I.bs, Nat.le_trans I.ok.bsz I.sz, fun b o e hb => ?_, fun b hb z => ?_, I.stack, I.stkFree⟩
  ·have e1 : cenv.cells.lookup y = some c := e1
   have e2 : cenv.cells.lookup z = some c := e2
   rw [hcl] at e1 e2
   refine cells_inj (fun p hp => ?_) (fun y z c a b => I.ok.inj y z c (cm a).1 (cm b).1) (PySem.mem_of_lookup e1) (PySem.mem_of_lookup e2)
   rw [Heap.size_push]
   exact Nat.lt_succ_of_lt (cm (y := p.1) (c := p.2) hp).2
  ·show ∃ c, cenv.cells.lookup y = some c
   have key : ∀ k, cenv.kindOf y = some k → (k = .cell ∨ k = .free) → ∃ c, cenv.cells.lookup y = some c := fun k hk hk' => by
    unfold Env.kindOf at hk
    rw [hsc] at hk
    obtain ⟨k', e, r⟩ := lookup_relS hk
    have : k' = .cell ∨ k' = .free := by
     rcases r with rfl | ⟨rfl, _⟩
     ·exact hk'
     ·exact .inr rfl
    rcases this with rfl | rfl
    ·obtain ⟨c, hm⟩ := cells_has (n := (s.heap.push { cls := .type "dict", data := .dict #[] }).objs.size) (acc := cloFrom X.env.cells scope.names []) (PySem.mem_of_lookup e)
     obtain ⟨c', e'⟩ := mem_lookup hm
     exact ⟨c', by rw [hcl]; exact e'⟩
    ·obtain ⟨c, h1, _⟩ := look e
     exact ⟨c, h1⟩
   rcases hy with hy | hy
   ·exact key _ hy (.inl rfl)
   ·exact key _ hy (.inr rfl)
  ·have z : (scope.names.lookup y == some NameKind.cell) = true := z
   have z : scope.names.lookup y = some .cell := by simpa using z
   have e : cenv.cells.lookup y = some c := e
   rw [hcl] at e
   rcases cells_mem (PySem.mem_of_lookup e) with hm | ⟨_, h2, _⟩
   ·rcases cloFrom_mem hm with hm | ⟨h1, _⟩
    ·cases hm
    ·have q := ok.uniq _ h1
     rw [z] at q; cases q
   ·rw [Heap.size_push] at h2
    exact Nat.le_of_succ_le h2
  ·show b ≠ cenv.locals
   rw [hL]; exact Nat.ne_of_lt (hfp b hb).2
  ·have e : cenv.cells.lookup y = some c := e
   rcases mem e with ⟨h1, _⟩ | ⟨h1, _⟩
   ·exact (hfp b hb).1.2.2.2.2.1 y c h1 z
   ·have h2 : s.heap.objs.size + 1 ≤ b := by rw [← z]; exact h1
    exact absurd (Nat.lt_of_lt_of_le (hfp b hb).2 (Nat.le_of_succ_le h2)) (Nat.lt_irrefl _)
  ·rcases (hfp b hb).1.2.2.2.1 with z | z
   ·exact I.ok.noex b o e z
   ·exact absurd (Nat.lt_of_lt_of_le (Heap.lt_size e) (Nat.le_trans I.ok.bsz z)) (Nat.lt_irrefl _)
  ·rcases List.mem_cons.mp (I.stkSub b z) with z | z
   ·exact (hfp b hb).1.2.1 z
   ·exact (hfp b hb).1.2.2.1 z
 refine ⟨okB, rfl, I.bare, Un.kept kp, ⟨fun _ => none, ?_, fun i y av e1 e2 e3 => ?_⟩, fun y c e => ?_, ?_, fun y c e => ?_, fun p hp => ?_, I.hok.kept kp, by rw [wipe_length]; exact I.len⟩
 ·show Heap.Ns _ cenv.locals _
  rw [hL]
  exact Heap.Ns.keeps (Heap.Ns.new ..) fun b o e => pushCells_keeps _ _ _ _ e
 ·obtain ⟨e2, hne⟩ := wipe_some e2
  have hfr : scope.names.lookup y = some .free ∧ (cenv.kindOf y = some .cell ∨ cenv.kindOf y = some .free) := by
   have key : ∀ k, cenv.scope.names.lookup y = some k → k = .local ∨ k = .cell ∨ k = .free → scope.names.lookup y = some .free ∧ (cenv.kindOf y = some .cell ∨ cenv.kindOf y = some .free) := fun k hk hk' => by
    have hk0 := hk
    rw [hsc] at hk
    obtain ⟨k', e, r⟩ := lookup_relS hk
    have no : ¬ (k' = .local ∨ k' = .cell) := fun hh => by
     rcases ok.own _ (PySem.mem_of_lookup e) hh with e' | e'
     ·obtain ⟨p, hp, hpy⟩ := List.mem_map.mp e'
      have e3 := ok.ix p hp
      have : p.1 = y := hpy
      rw [this] at e3
      exact hne (List.mem_map.mpr ⟨p, hp, nodup_ix hN e3 e1⟩)
     ·exact e' (List.mem_of_getElem? e1)
    rcases r with rfl | ⟨rfl, rfl⟩
    ·rcases hk' with rfl | rfl | rfl
     ·exact absurd (.inl rfl) no
     ·exact absurd (.inr rfl) no
     ·exact ⟨e, .inr hk0⟩
    ·exact ⟨e, .inl hk0⟩
   have e3 : Vis cenv.scope y := e3
   rcases e3 with e3 | e3 | e3
   ·exact key _ e3 (.inl rfl)
   ·exact key _ e3 (.inr (.inl rfl))
   ·exact key _ e3 (.inr (.inr rfl))
  obtain ⟨m, hn, hl⟩ := I.loc
  have hvis : Vis X.env.scope y := (ok.free _ (PySem.mem_of_lookup hfr.1) rfl).elim (fun k => .inr (.inl k)) (fun k => .inr (.inr k))
  obtain ⟨w, r, q⟩ := hl i y av e1 e2 hvis
  refine ⟨w, r, .inr ⟨hfr.2, ?_⟩⟩
  obtain ⟨c, h1, h2⟩ := look hfr.1
  rcases q with ⟨k, _⟩ | ⟨_, c', e', z⟩
  ·have k : X.env.scope.names.lookup y = some .local := k
   rcases ok.free _ (PySem.mem_of_lookup hfr.1) rfl with k' | k' <;> rw [show X.env.scope.names.lookup y = _ from k'] at k <;> cases k
  ·rw [h2] at e'; cases e'
   exact ⟨c, h1, z.keeps kp⟩
 ·have e : cenv.cells.lookup y = some c := e
  rcases mem e with ⟨h1, _⟩ | ⟨_, z⟩
  ·obtain ⟨w, z⟩ := I.cell y c h1
   exact ⟨w, z.keeps kp⟩
  ·exact ⟨_, z⟩
 ·show H cenv.locals = none
  rw [hL]; exact I.hok.fresh (Nat.le_refl _)
 ·have e : cenv.cells.lookup y = some c := e
  rcases mem e with ⟨h1, _⟩ | ⟨h1, _⟩
  ·exact I.freeC y c h1
  ·exact I.hok.fresh (Nat.le_of_succ_le h1)
 ·exact absurd (show p ∈ ([] : List (Addr × Obj)) ++ [] from hp) (by simp)
theorem app_ok {E : Value → Shared → Prop} {D : Addr} {xs : List V} {y : V} {v : Value} {Q : Value → Shared → Prop} (I : Inv X pins σ H s) (hD : H D = some (.lst xs)) (hz : xs.length < sizeLine) (r : RelV y v)
  (h : ∀ s', Inv X pins σ (upd H D (.lst (xs ++ [y]))) s' → Q .none s') : wpAny (model X.prog X.w) X.A (call (.builtin "list.append") [.ref D, v]) Q E s := by
 obtain ⟨hz', its, n, ri, e⟩ := I.hok D _ hD
 have hl := ri.length
 refine append_at (hsz := by rw [List.size_toArray]; omega) e fun h' sb ho' => ?_
 refine h { s with heap := h' } (I.write (t' := s.toks) (by rw [hD]; trivial) (.inl rfl) (fun b u hb q => (sb.2 b hb).trans q) ⟨_, ho'⟩ ⟨by rw [List.length_append]; exact hz, its ++ [v], n + 1, ri.append (.cons r .nil), ?_⟩)
 rw [ho']
 simp
def PTs (X : Cx) (ifs : List Expr) (t : TT) : Prop :=
 ∀ (pins : List (Addr × Obj)) (s : Shared) (σ : St) (H : Hp) (Q : Bool → Hp → Prop), Inv X pins σ H s → t σ H Q →
  wpAny (model X.prog X.w) X.A (forIn ifs true fun c r => if r = true then do let ok ← isTrue c X.env (eval c X.env); pure (ForInStep.yield ok) else pure (ForInStep.yield r)) (TP X pins σ Q) X.xe s
def tYes : TT := fun _ H Q => Q true H
theorem pts_nil : PTs X [] tYes := fun _ _ _ H _ I h => wpAny_tests_nil ⟨H, I, h⟩
theorem pts_one {c : Expr} {t : TT} (h : PT X c t) : PTs X [c] t := fun pins s σ H Q I hw => wpAny_tests_one (h pins s σ H Q I hw)
end
theorem thnF {α : Type} {t : Sem α} {Q Q' : α → Shared → Prop} {M : Model} {A : Around} {E : Value → Shared → Prop} {s : Shared} (h : wpAny M A t Q (fun _ _ => False) s) (hQ : ∀ a s, Q a s → Q' a s) : wpAny M A t Q' E s := wpAny_mono h hQ fun _ _ z => False.elim z
theorem compLoop_any {prog : Program} {w : World} {A : Around} {R : Result → Shared → Prop} {s : Shared} {elt target iter : Expr} {ifs : List Expr} {scope : Scope} {pos : Pos} {it acc : Value} {env : Env} (I : Nat → Shared → Prop)
  (turn : ∀ n s, I n s → wpAny (model prog w) A (pyNext it) (fun r s₁ => match r with
   | none => R (.ok .next) s₁
   | some v => wpAny (model prog w) A (letOwnedTupleGo target it v) (fun _ s₁' => wpAny (model prog w) A (assign target env v) (fun _ s₂ =>
     wpAny (model prog w) A (forIn ifs true fun c r => if r = true then do let ok ← isTrue c env (eval c env); pure (ForInStep.yield ok) else pure (ForInStep.yield r)) (fun ok s₃ =>
      if ok = true then wpAny (model prog w) A (eval elt env) (fun x s₄ =>
       wpAny (model prog w) A (call (.builtin "list.append") [acc, x]) (fun _ s₅ => ∃ m, m < n ∧ I m s₅) (notedBy (model prog w) A env fun e s' => R (.error e) s') s₄) (notedBy (model prog w) A env fun e s' => R (.error e) s') s₃
      else ∃ m, m < n ∧ I m s₃) (notedBy (model prog w) A env fun e s' => R (.error e) s') s₂) (notedBy (model prog w) A env fun e s' => R (.error e) s') s₁') (notedBy (model prog w) A env fun e s' => R (.error e) s') s₁) (notedBy (model prog w) A env fun e s' => R (.error e) s') s)
  (n : Nat) (h : I n s) :
  codeAny (model prog w) A (.compLoop (.ListComp elt [⟨target, iter, ifs, 0⟩] scope pos) 0 it acc env) R s := by
 refine codeAny_loop rfl I (fun n s hI => ?_) n h
 show wpAny _ A ((compTurn (.ListComp elt [⟨target, iter, ifs, 0⟩] scope pos) 0 it acc env).onRaise (fun x => do noteFrame x env; theTreesLotGoes x)) _ _ s
 refine wpAny_noted ?_
 rw [compTurn_list]
 refine wpAny_bind (wpAny_standAt (wpAny_bind (wpAny_mono (turn n s hI) (fun r s₁ h₁ => ?_) fun _ _ h' => h')))
 cases r with
 | none => exact wpAny_pure h₁
 | some v =>
  refine wpAny_bind (wpAny_mono h₁ (fun _ s₁' h₁' => ?_) fun _ _ h' => h')
  refine wpAny_bind (wpAny_mono h₁' (fun _ s₂ h₂ => wpAny_bind (wpAny_mono h₂ (fun ok s₃ h₃ => ?_) fun _ _ h' => h')) fun _ _ h' => h')
  cases ok with
  | false => exact wpAny_pure ⟨rfl, h₃⟩
  | true =>
   exact wpAny_bind (wpAny_bind (wpAny_mono h₃ (fun x s₄ h₄ => wpAny_bind (wpAny_mono h₄ (fun _ s₅ h₅ => wpAny_pure (wpAny_pure ⟨rfl, h₅⟩)) fun _ _ h' => h')) fun _ _ h' => h'))
section
variable {X : Cx}
def tLc (wi : TI) (g : TG) (tt : TT) (te : TE) (vs : List Nat) : TE := fun σ H Q => wi σ H fun J H1 => ∀ D, H1 D = none → ∃ W : Nat → Nat → Hp → Prop, (∃ m, W 0 m (upd H1 D (.lst []))) ∧ ∀ i m H, W i m H →
 (J.stop i H ∧ Q (.ref D) H) ∨ (J.go i H ∧ ∃ Nx : Hp → Prop, (∀ H', Nx H' → ∃ m', m' < m ∧ W (i + 1) m' H') ∧ ∀ x H', J.yld i H x H' → g x (wipe σ vs) H' fun σ2 H2 => wipe σ2 vs = wipe σ vs ∧ tt σ2 H2 fun b H3 =>
  if b = true then te σ2 H3 fun y H4 => ∃ acc, H4 D = some (.lst acc) ∧ acc.length < sizeLine ∧ Nx (upd H4 D (.lst (acc ++ [y]))) else Nx H3)
theorem lc_core {pins : List (Addr × Obj)} {s : Shared} {σ : St} {H : Hp} {Q : VK} {elt tg iter : Expr} {ifs : List Expr} {scope : Scope} {own : List (Str × Nat)} {pos pos' : Pos} {wi : TI} {g : TG} {tt : TT} {te : TE} {use : Option (Value → Sem Unit)} {Qf : Value → Shared → Prop}
  (hc : X.calm = true) (hN : X.N.Nodup) (I : Inv X pins σ H s) (hi : PI X tg iter wi) (ok : BlkOk X.N X.env.scope scope own)
  (hg : ∀ (s : Shared) (H : Hp) (C : Addr) (cl : List (Str × Addr)) (fp : List Addr), PG (X.blk s H scope (compEnvC scope cl C X.env) fp) tg g) (ht : ∀ (s : Shared) (H : Hp) (C : Addr) (cl : List (Str × Addr)) (fp : List Addr), PTs (X.blk s H scope (compEnvC scope cl C X.env) fp) ifs tt)
  (he : ∀ (s : Shared) (H : Hp) (C : Addr) (cl : List (Str × Addr)) (fp : List Addr), PE (X.blk s H scope (compEnvC scope cl C X.env) fp) elt te) (hs : ∀ x, foldedSetIterable iter X.env x = pure x)
  (h : tLc wi g tt te (own.map (·.2)) σ H Q)
  (hRR : ∀ D C s' m H', Inv X pins σ H' s' → Q (.ref D) H' → s'.heap.Ns C m → FpOk X pins H' C → compPost (model X.prog X.w) X.A X.xe use Qf (.ref D) C (.ok .next) s') :
  wpAny (model X.prog X.w) X.A (comprehension (.ListComp elt [⟨tg, iter, ifs, 0⟩] scope pos) scope X.env pos' (newList []) false (eval iter X.env) use) Qf X.xe s := by
 have hfree : ∀ y ∈ scope.names, y.2 = .free → ∃ c, X.env.cells.lookup y.1 = some c := fun y hy e => by
  rcases ok.free y hy e with k | k
  ·exact I.ok.has _ (.inl k)
  ·exact I.ok.has _ (.inr k)
 refine wpAny_comprehension_free (use := use) rfl hs (closure_ok hfree) ok.kind (fun y hy e => by rw [ok.uniq y hy, e])
  (thn (hi pins s σ H _ I h) fun xv s1 hx => thn hx fun itv s2 h2 => ?_)
 obtain ⟨it, fp, tn, J, H2, e, I2, T, st2, f2, q⟩ := h2
 subst e
 refine wpAny_newObj_type (newEnv_comp ?_) (by show 0 ≤ sizeLine; decide)
 generalize hD : s2.heap.objs.size = D
 have hDn : H2 D = none := I2.hok.fresh (Nat.le_of_eq hD)
 obtain ⟨W, ⟨m0, w0⟩, turn⟩ := q D hDn
 generalize hs3 : ({ s2 with heap := s2.heap.push { cls := .type "list", data := .seq ([] : List Value).toArray } } : Shared) = s3
 have I3 : Inv X pins σ (upd H2 D (.lst [])) s3 := by
  rw [← hs3]
  refine I2.laid (t' := s2.toks) (fun b o e => Heap.get?_push_of_some _ e) (Nat.le_of_eq hD) ⟨Nat.zero_le _, [], 0, .nil, ?_⟩
  rw [← hD]
  exact Heap.get?_push_size _ rfl
 have h3 : s3.heap = s2.heap.push { cls := .type "list", data := .seq ([] : List Value).toArray } := by rw [← hs3]
 have sz : ∀ b ∈ fp, b < s2.heap.objs.size := fun b hb => by
  obtain ⟨o, e, _⟩ := T.obj _ _ st2 b hb
  exact Heap.lt_size e
 have f3 : ∀ b ∈ fp, FpOk X pins (upd H2 D (.lst [])) b ∧ b < s3.heap.objs.size := fun b hb => by
  have hlt := sz b hb
  refine ⟨⟨?_, (f2 b hb).2⟩, by rw [h3, Heap.size_push]; exact Nat.lt_succ_of_lt hlt⟩
  rw [upd_ne (by rw [← hD]; exact Nat.ne_of_lt hlt)]
  exact (f2 b hb).1
 have st3 : tn 0 s3.heap := T.keep _ _ _ st2 fun b _ o e => by rw [h3]; exact Heap.get?_push_of_some _ e
 have I4 := block_start I3 ok hN f3
 have pg := hg s3 (upd H2 D (.lst [])) s3.heap.objs.size (cellsFrom (s3.heap.objs.size + 1) scope.names (cloFrom X.env.cells scope.names [])) fp
 have pt := ht s3 (upd H2 D (.lst [])) s3.heap.objs.size (cellsFrom (s3.heap.objs.size + 1) scope.names (cloFrom X.env.cells scope.names [])) fp
 have pe := he s3 (upd H2 D (.lst [])) s3.heap.objs.size (cellsFrom (s3.heap.objs.size + 1) scope.names (cloFrom X.env.cells scope.names [])) fp
 show codeAny _ _ (.compStart (.ListComp elt [⟨tg, iter, ifs, 0⟩] scope pos) 0 (.ref it) (.ref D) (compEnvC scope (cellsFrom (s3.heap.objs.size + 1) scope.names (cloFrom X.env.cells scope.names [])) s3.heap.objs.size X.env)) (compPost (model X.prog X.w) X.A X.xe use Qf (.ref D) s3.heap.objs.size) { s3 with heap := pushCells (s3.heap.push { cls := .type "dict", data := .dict #[] }) scope.names }
 have nfp : ∀ b ∈ fp, (upd H2 D (.lst [])) b = none := fun b hb => (f3 b hb).1.1
 generalize hce : compEnvC scope (cellsFrom (s3.heap.objs.size + 1) scope.names (cloFrom X.env.cells scope.names [])) s3.heap.objs.size X.env = ce at I4 pg pt pe ⊢
 have cL : ce.locals = s3.heap.objs.size := by subst hce; rfl
 generalize hH3 : upd H2 D (.lst []) = H3 at I3 I4 pg pt pe w0 nfp f3
 generalize hs4 : ({ s3 with heap := pushCells (s3.heap.push { cls := .type "dict", data := .dict #[] }) scope.names } : Shared) = s4 at I4 ⊢
 have st4 : tn 0 s4.heap := T.keep _ _ _ st3 fun b _ o e => by rw [← hs4]; exact pushCells_keeps _ _ _ _ (Heap.get?_push_of_some _ e)
 have stat : ∀ {σ' : St} {H' : Hp} {s' : Shared}, Inv (X.blk s3 H3 scope ce fp) [] σ' H' s' → (∀ b ∈ fp, H' b = none) → ∀ b ∈ fp, FpOk (X.blk s3 H3 scope ce fp) [] H' b := fun {σ' H' s'} I' hn b hb =>
  ⟨hn b hb, (I'.ok.exf b hb).1, I'.ok.exfs b hb, .inl hb, fun x c e => (I'.ok.exf b hb).2 x c e, fun p hp => absurd (show p ∈ ([] : List (Addr × Obj)) ++ [] from hp) (by simp)⟩
 have loop : codeAny (model X.prog X.w) X.A (.compLoop (.ListComp elt [⟨tg, iter, ifs, 0⟩] scope pos) 0 (.ref it) (.ref D) ce) (compPost (model X.prog X.w) X.A X.xe use Qf (.ref D) s3.heap.objs.size) s4 := by
  refine compLoop_any (fun n s' => ∃ i H', Inv (X.blk s3 H3 scope ce fp) [] (wipe σ (own.map (·.2))) H' s' ∧ tn i s'.heap ∧ (∀ b ∈ fp, H' b = none) ∧ W i n H') ?_ m0 ⟨0, H3, I4, st4, nfp, w0⟩
  rintro n s5 ⟨i, H5, I5, st5, n5, w5⟩
  rcases turn i n H5 w5 with ⟨stop, qq⟩ | ⟨go, Nx, hNx, step⟩
  ·have td := T.done (X.blk s3 H3 scope ce fp) rfl rfl rfl hc i [] s5 _ H5 (fun _ _ => False) I5 (stat I5 n5) st5 stop
   refine thnF td fun r s6 ⟨hr, I6⟩ => ?_
   subst hr
   have I7 : Inv X pins σ H5 s6 := I3.call' (ch := fp) I6.os I6.base I6.hok I6.bare fun b hb => ⟨(f3 b hb).1.2.2.2.1, (f3 b hb).1.2.1, (f3 b hb).1.2.2.2.2.1, (f3 b hb).1.2.2.2.2.2⟩
   have nC : H5 s3.heap.objs.size = none := by
    have z : H5 ce.locals = none := I6.free
    rw [cL] at z
    exact z
   obtain ⟨m, hn, _⟩ := I6.loc
   have hn : s6.heap.Ns ce.locals m := hn
   rw [cL] at hn
   exact hRR D s3.heap.objs.size s6 m H5 I7 qq hn (I3.fpOk (Nat.le_refl _) nC)
  ·have ti := T.item (X.blk s3 H3 scope ce fp) rfl rfl rfl hc i [] s5 _ H5 (fun _ _ => False) I5 (stat I5 n5) st5 go
   refine thnF ti fun r s6 ⟨u, hr, h6⟩ => ?_
   subst hr
   refine thnF h6 fun _ s7 ⟨x, H7, I7, r7, y7, st7, n7⟩ => ?_
   have I7' := I7.pinned (stat I7 n7) (T.obj _ _ st7)
   refine thnF (pg _ s7 _ H7 x u _ I7' r7 (step x H7 y7)) fun _ s8 ⟨σ8, H8, I8, hw8, q8⟩ => ?_
   refine thnF (pt _ s8 σ8 H8 _ I8 q8) fun b s9 ⟨H9, I9, q9⟩ => ?_
   have fin : ∀ {s' : Shared} {H' : Hp}, Inv (X.blk s3 H3 scope ce fp) ([] ++ pinsAt fp s7.heap) σ8 H' s' → Nx H' → ∃ m, m < n ∧ ∃ i H', Inv (X.blk s3 H3 scope ce fp) [] (wipe σ (own.map (·.2))) H' s' ∧ tn i s'.heap ∧ (∀ b ∈ fp, H' b = none) ∧ W i m H' := fun {s' H'} I' nx => by
    obtain ⟨m', hm, w'⟩ := hNx H' nx
    have pin' : ∀ b ∈ fp, ∀ o, s7.heap.get? b = some o → s'.heap.get? b = some o ∧ H' b = none := fun b hb o e =>
     let z := I'.pin (b, o) (List.mem_append_right _ (List.mem_append_right _ (mem_pinsAt hb e)))
     ⟨z.1, z.2.1⟩
    have hl : (wipe σ (own.map (·.2))).length = σ8.length := by rw [← hw8, wipe_length]
    refine ⟨m', hm, i + 1, H', (I'.unpinned (pins := [])).weak hl (fun j v e => ?_), T.keep _ _ _ st7 fun b hb o e => (pin' b hb o e).1, fun b hb => ?_, w'⟩
    ·rw [← hw8] at e
     exact (wipe_some e).1
    ·obtain ⟨o, e, _⟩ := T.obj _ _ st7 b hb
     exact (pin' b hb o e).2
   cases b with
   | false =>
    simp only [Bool.false_eq_true, if_false] at q9 ⊢
    exact fin I9 q9
   | true =>
    simp only [if_true] at q9 ⊢
    refine thnF (pe _ s9 σ8 H9 _ I9 q9) fun z s10 ⟨yv, H10, I10, r10, acc, hD10, hz10, nx⟩ => ?_
    exact app_ok (X := X.blk s3 H3 scope ce fp) I10 hD10 hz10 r10 fun s11 I11 => fin I11 nx
 exact codeAny_compStart_list loop (T.self X.A 0 _ _ _ st4 loop)
theorem pe_lc {elt tg iter : Expr} {ifs : List Expr} {scope : Scope} {own : List (Str × Nat)} {pos : Pos} {wi : TI} {g : TG} {tt : TT} {te : TE} (hc : X.calm = true) (hN : X.N.Nodup) (hi : PI X tg iter wi) (ok : BlkOk X.N X.env.scope scope own)
  (hg : ∀ (s : Shared) (H : Hp) (C : Addr) (cl : List (Str × Addr)) (fp : List Addr), PG (X.blk s H scope (compEnvC scope cl C X.env) fp) tg g) (ht : ∀ (s : Shared) (H : Hp) (C : Addr) (cl : List (Str × Addr)) (fp : List Addr), PTs (X.blk s H scope (compEnvC scope cl C X.env) fp) ifs tt)
  (he : ∀ (s : Shared) (H : Hp) (C : Addr) (cl : List (Str × Addr)) (fp : List Addr), PE (X.blk s H scope (compEnvC scope cl C X.env) fp) elt te) (hs : ∀ x, foldedSetIterable iter X.env x = pure x := by intro _; rfl) :
  PE X (.ListComp elt [⟨tg, iter, ifs, 0⟩] scope pos) (tLc wi g tt te (own.map (·.2))) := by
 intro pins s σ H Q I h
 rw [eval_ListComp]
 refine lc_core hc hN I hi ok hg ht he hs h fun D C s' m H' I' q hn f => ⟨m, hn, fun h'' sb => ?_⟩
 obtain ⟨f0, f1, f2, f3, f4, f5⟩ := f
 exact ⟨.ref D, H', I'.turned (t' := s'.toks) (fun b o hb e => (sb.2 b hb).trans e) f0 f1 f3 f4 f5, rfl, q⟩
end
theorem lc_range {lo : Int} {n : Nat} {g : TG} {tt : TT} {te : TE} {vs : List Nat} {σ : St} {H1 : Hp} {D : Addr} {Qd : Hp → Prop} (Pv : Nat → Hp → Prop) (h0 : Pv 0 (upd H1 D (.lst [])))
  (hs : ∀ i H, i < n → Pv i H → g (.int (lo + i)) (wipe σ vs) H fun σ2 H2 => wipe σ2 vs = wipe σ vs ∧ tt σ2 H2 fun b H3 =>
   if b = true then te σ2 H3 fun y H4 => ∃ acc, H4 D = some (.lst acc) ∧ acc.length < sizeLine ∧ Pv (i + 1) (upd H4 D (.lst (acc ++ [y]))) else Pv (i + 1) H3) (hd : ∀ H, Pv n H → Qd H) :
  ∃ W : Nat → Nat → Hp → Prop, (∃ m, W 0 m (upd H1 D (.lst []))) ∧ ∀ i m H, W i m H →
   ((Itr lo n).stop i H ∧ Qd H) ∨ ((Itr lo n).go i H ∧ ∃ Nx : Hp → Prop, (∀ H', Nx H' → ∃ m', m' < m ∧ W (i + 1) m' H') ∧ ∀ x H', (Itr lo n).yld i H x H' → g x (wipe σ vs) H' fun σ2 H2 => wipe σ2 vs = wipe σ vs ∧ tt σ2 H2 fun b H3 =>
    if b = true then te σ2 H3 fun y H4 => ∃ acc, H4 D = some (.lst acc) ∧ acc.length < sizeLine ∧ Nx (upd H4 D (.lst (acc ++ [y]))) else Nx H3) := by
 refine ⟨fun i m H => m = n - i ∧ i ≤ n ∧ Pv i H, ⟨n, by simp, Nat.zero_le _, h0⟩, ?_⟩
 rintro i m H ⟨rfl, hi, p⟩
 by_cases hlt : i < n
 ·refine .inr ⟨hlt, Pv (i + 1), fun H' p' => ⟨n - (i + 1), by omega, rfl, hlt, p'⟩, fun x H' y => ?_⟩
  obtain ⟨e, y⟩ := y
  subst e y
  exact hs i _ hlt p
 ·have e : i = n := by omega
  subst e
  exact .inl ⟨Nat.le_refl _, hd H p⟩
theorem lc_list {K : PySem.W.Frag} {a : Addr} {xs : List V} {g : TG} {tt : TT} {te : TE} {vs : List Nat} {σ : St} {H1 : Hp} {D : Addr} {Qd : Hp → Prop} (Pv : Nat → Hp → Prop) (h0 : Pv 0 (upd H1 D (.lst []))) (hl : ∀ i H, i ≤ xs.length → Pv i H → SqL K H a xs)
  (hs : ∀ i x H, xs[i]? = some x → Pv i H → g x (wipe σ vs) H fun σ2 H2 => wipe σ2 vs = wipe σ vs ∧ tt σ2 H2 fun b H3 =>
   if b = true then te σ2 H3 fun y H4 => ∃ acc, H4 D = some (.lst acc) ∧ acc.length < sizeLine ∧ Pv (i + 1) (upd H4 D (.lst (acc ++ [y]))) else Pv (i + 1) H3) (hd : ∀ H, Pv xs.length H → Qd H) :
  ∃ W : Nat → Nat → Hp → Prop, (∃ m, W 0 m (upd H1 D (.lst []))) ∧ ∀ i m H, W i m H →
   ((Itl K a).stop i H ∧ Qd H) ∨ ((Itl K a).go i H ∧ ∃ Nx : Hp → Prop, (∀ H', Nx H' → ∃ m', m' < m ∧ W (i + 1) m' H') ∧ ∀ x H', (Itl K a).yld i H x H' → g x (wipe σ vs) H' fun σ2 H2 => wipe σ2 vs = wipe σ vs ∧ tt σ2 H2 fun b H3 =>
    if b = true then te σ2 H3 fun y H4 => ∃ acc, H4 D = some (.lst acc) ∧ acc.length < sizeLine ∧ Nx (upd H4 D (.lst (acc ++ [y]))) else Nx H3) := by
 refine ⟨fun i m H => m = xs.length - i ∧ i ≤ xs.length ∧ Pv i H, ⟨xs.length, by simp, Nat.zero_le _, h0⟩, ?_⟩
 rintro i m H ⟨rfl, hi, p⟩
 have q := hl i H hi p
 by_cases hlt : i < xs.length
 ·refine .inr ⟨⟨xs, xs[i], q, by simp [hlt]⟩, Pv (i + 1), fun H' p' => ⟨xs.length - (i + 1), by omega, rfl, hlt, p'⟩, fun x H' y => ?_⟩
  obtain ⟨e, y⟩ := y
  subst e
  exact hs i x _ (y xs q) p
 ·have e : i = xs.length := by omega
  subst e
  exact .inl ⟨⟨xs, q, Nat.le_refl _⟩, hd H p⟩
def blkC (N : List Str) (sc scope : Scope) (own : List (Str × Nat)) : Bool :=
 (match scope.kind with | .function => true | _ => false) && (scope.names.all fun y => decide (scope.names.lookup y.1 = some y.2)) && (own.all fun p => decide (N[p.2]? = some p.1)) &&
  (scope.names.all fun y => match y.2 with
   | .free => (match sc.names.lookup y.1 with | some .cell => true | some .free => true | _ => false)
   | .local => decide (y.1 ∈ own.map (·.1)) || decide (y.1 ∉ N)
   | .cell => decide (y.1 ∈ own.map (·.1)) || decide (y.1 ∉ N)
   | _ => true)
theorem blkOk_by {N : List Str} {sc scope : Scope} {own : List (Str × Nat)} (h : blkC N sc scope own = true) : BlkOk N sc scope own := by
 unfold blkC at h
 simp only [Bool.and_eq_true, List.all_eq_true, decide_eq_true_eq] at h
 obtain ⟨⟨⟨h1, h2⟩, h3⟩, h4⟩ := h
 refine ⟨?_, h2, h3, fun y hy e => ?_, fun y hy e => ?_⟩
 ·split at h1
  ·assumption
  ·cases h1
 ·have q := h4 y hy
  simp only [e] at q
  split at q <;> first | exact .inl (by assumption) | exact .inr (by assumption) | cases q
 ·have q := h4 y hy
  rcases e with e | e <;> (simp only [e, Bool.or_eq_true, decide_eq_true_eq] at q; exact q)
end L2
namespace L2
open PySem PySem.Spec PyProof.Rows
section
variable {prog : Program} {w : World} {A : Around} {R : Result → Shared → Prop} {s : Shared} {elt t0 i0 t1 i1 : Expr} {ifs0 ifs1 : List Expr} {scope : Scope} {pos : Pos} {it acc : Value} {env : Env}
end
section
variable {X : Cx}
end
end L2
namespace L2
open PySem PySem.Spec PyProof.Rows
section
variable {κ : Type} [DecidableEq κ]
def valV (kvs : List (κ × V)) (k : κ) : Option V := (kvs.find? fun kv => decide (kv.1 = k)).map (·.2)
def putK (kvs : List (κ × V)) (k : κ) (v : V) : List (κ × V) :=
 if (kvs.any fun kv => decide (kv.1 = k)) = true then kvs.map (fun kv => if kv.1 = k then (kv.1, v) else kv) else kvs ++ [(k, v)]
theorem valV_pos {p : κ × V} {r : List (κ × V)} {k : κ} (e : p.1 = k) : valV (p :: r) k = some p.2 := by simp [valV, List.find?_cons, e]
theorem valV_neg {p : κ × V} {r : List (κ × V)} {k : κ} (e : ¬ p.1 = k) : valV (p :: r) k = valV r k := by simp [valV, List.find?_cons, e]
theorem valV_any (k : κ) : ∀ kvs : List (κ × V), (kvs.any fun kv => decide (kv.1 = k)) = (valV kvs k).isSome
 | [] => rfl
 | p :: r => by
  rw [List.any_cons]
  by_cases e : p.1 = k
  ·simp only [valV_pos e, decide_eq_true e, Bool.true_or, Option.isSome_some]
  ·rw [valV_neg e, decide_eq_false e, Bool.false_or]; exact valV_any k r
theorem length_putK (kvs : List (κ × V)) (k : κ) (v : V) : (putK kvs k v).length ≤ kvs.length + 1 := by
 unfold putK
 split
 ·rw [List.length_map]; omega
 ·rw [List.length_append, List.length_cons, List.length_nil]; omega
theorem RelO.isSome_eq {o : Option V} {u : Option Value} (r : RelO o u) : o.isSome = u.isSome := by
 cases o with
 | none => cases u with
  | none => rfl
  | some _ => exact (show False from r).elim
 | some _ => cases u with
  | none => exact (show False from r).elim
  | some _ => rfl
theorem RelO.getD {o : Option V} {u : Option Value} {d : V} {d' : Value} (r : RelO o u) (rd : RelV d d') : RelV (o.getD d) (u.getD d') := by
 cases o with
 | none => cases u with
  | none => exact rd
  | some _ => exact (show False from r).elim
 | some _ => cases u with
  | none => exact (show False from r).elim
  | some _ => exact r
theorem KV.val {kvs : List (κ × V)} {vs : List (κ × Value)} (r : KV kvs vs) (k : κ) : RelO (valV kvs k) (valueAt vs k) := by
 unfold KV at r
 induction r with
 | nil => exact True.intro
 | @cons p q ps qs h t ih =>
  obtain ⟨h1, h2⟩ := h
  by_cases e : p.1 = k
  ·have e' : q.1 = k := h1.symm.trans e
   have b : valueAt (q :: qs) k = some q.2 := by simp [valueAt, List.find?_cons, e']
   rw [valV_pos e, b]; exact h2
  ·have e' : ¬ q.1 = k := fun z => e (h1.trans z)
   have b : valueAt (q :: qs) k = valueAt qs k := by simp [valueAt, List.find?_cons, e']
   rw [valV_neg e, b]; exact ih
theorem KV.any {kvs : List (κ × V)} {vs : List (κ × Value)} (r : KV kvs vs) (k : κ) : (kvs.any fun kv => decide (kv.1 = k)) = vs.any fun kv => decide (kv.1 = k) := by
 unfold KV at r
 induction r with
 | nil => rfl
 | cons h t ih => rw [List.any_cons, List.any_cons, ih, h.1]
theorem KV.repl {kvs : List (κ × V)} {vs : List (κ × Value)} (r : KV kvs vs) (k : κ) {y : V} {u : Value} (ry : RelV y u) :
  KV (kvs.map fun kv => if kv.1 = k then (kv.1, y) else kv) (vs.map fun kv => if kv.1 = k then (kv.1, u) else kv) := by
 unfold KV at r ⊢
 induction r with
 | nil => exact .nil
 | @cons p q ps qs h t ih =>
  rw [List.map_cons, List.map_cons]
  refine .cons ?_ ih
  obtain ⟨h1, h2⟩ := h
  by_cases e : p.1 = k
  ·rw [if_pos e, if_pos (h1.symm.trans e)]; exact ⟨h1, ry⟩
  ·rw [if_neg e, if_neg (fun z => e (h1.trans z))]; exact ⟨h1, h2⟩
theorem KV.put {kvs : List (κ × V)} {vs : List (κ × Value)} (r : KV kvs vs) (k : κ) {y : V} {u : Value} (ry : RelV y u) : KV (putK kvs k y) (stored vs k u) := by
 unfold putK stored
 rw [r.any k]
 by_cases e : (vs.any fun kv => decide (kv.1 = k)) = true
 ·rw [if_pos e, if_pos e]; exact r.repl k ry
 ·rw [if_neg e, if_neg e]; exact Paired.snoc r ⟨rfl, ry⟩
theorem KV.length {kvs : List (κ × V)} {vs : List (κ × Value)} (r : KV kvs vs) : kvs.length = vs.length := Paired.length r
end
theorem kV_is {P : Program} {w : World} {k : Key} {u : Value} (r : RelV (kV k) u) : (mixKind P w).is k u = true := by
 cases k with
 | inl i => obtain ⟨t, e⟩ := (show ∃ t, u = Value.int i t from r); subst e; exact mixKind_int P w i t
 | inr x => obtain ⟨t, e⟩ := (show ∃ t, u = Value.str x t from r); subst e; exact mixKind_str P w x t
theorem items_are {P : Program} {w : World} : ∀ {ks : List Key} {us : List Value}, Vals (ks.map kV) us → ItemsAre (mixKind P w) ks us
 | [], _, r => by rw [List.map_nil] at r; cases r; exact .nil
 | k :: ks, _, r => by
  rw [List.map_cons] at r
  cases r with
  | cons h t => exact .cons (kV_is h) (items_are t)
abbrev KT (H : Hp) : List (List Key × V) → List (List Key × Addr × Value) → Prop := Paired fun p q => p.1 = q.1 ∧ H q.2.1 = some (.tup (p.1.map kV)) ∧ RelV p.2 q.2.2
theorem KT.val {H : Hp} {kvs : List (List Key × V)} {xs : List (List Key × Addr × Value)} (r : KT H kvs xs) (k : List Key) : RelO (valV kvs k) ((atKey xs k).map (·.2)) := by
 induction r with
 | nil => exact True.intro
 | @cons p q ps qs h t ih =>
  obtain ⟨h1, _, h2⟩ := h
  by_cases e : p.1 = k
  ·have e' : q.1 = k := h1.symm.trans e
   have b : atKey (q :: qs) k = some q.2 := by simp [atKey, List.find?_cons, e']
   rw [valV_pos e, b]; exact h2
  ·have e' : ¬ q.1 = k := fun z => e (h1.trans z)
   have b : atKey (q :: qs) k = atKey qs k := by simp [atKey, List.find?_cons, e']
   rw [valV_neg e, b]; exact ih
theorem KT.repl {H : Hp} {kvs : List (List Key × V)} {xs : List (List Key × Addr × Value)} (r : KT H kvs xs) (k : List Key) {y : V} {u : Value} (ry : RelV y u) :
  KT H (kvs.map fun kv => if kv.1 = k then (kv.1, y) else kv) (xs.map (putAt k u)) := by
 induction r with
 | nil => exact .nil
 | @cons p q ps qs h t ih =>
  rw [List.map_cons, List.map_cons]
  refine .cons ?_ ih
  obtain ⟨h1, h2, h3⟩ := h
  unfold putAt
  by_cases e : p.1 = k
  ·rw [if_pos e, if_pos (h1.symm.trans e)]; exact ⟨h1, h2, ry⟩
  ·rw [if_neg e, if_neg (fun z => e (h1.trans z))]; exact ⟨h1, h2, h3⟩
theorem KT.put {H : Hp} {kvs : List (List Key × V)} {xs : List (List Key × Addr × Value)} (r : KT H kvs xs) (k : List Key) {b : Addr} {y : V} {u : Value} (hb : H b = some (.tup (k.map kV))) (ry : RelV y u) :
  KT H (putK kvs k y) (storedH xs k b u) := by
 have e : (kvs.any fun kv => decide (kv.1 = k)) = (atKey xs k).isSome := by
  rw [valV_any, (r.val k).isSome_eq, Option.isSome_map]
 unfold putK storedH
 rw [e]
 by_cases q : (atKey xs k).isSome = true
 ·rw [if_pos q, if_pos q]; exact r.repl k ry
 ·rw [if_neg q, if_neg q]; exact Paired.snoc r ⟨rfl, hb, ry⟩
theorem KT.keeps {H H' : Hp} {kvs : List (List Key × V)} {xs : List (List Key × Addr × Value)} (r : KT H kvs xs) (ht : ∀ b ys, H b = some (.tup ys) → H' b = some (.tup ys)) : KT H' kvs xs :=
 Paired.mapP r fun _ _ z => ⟨z.1, ht _ _ z.2.1, z.2.2⟩
section
variable {P : Program} {w : World} {H : Hp} {h : Heap} {a : Addr}
theorem rd_of {u : HO} (ok : HOk P w H h) (e : Rd H a u) : ObjOk P w H h a u := e.ok ok
theorem dk_rd {kvs : List (Key × V)} (ok : HOk P w H h) (e : Rd H a (.dK kvs)) : kvs.length ≤ sizeLine ∧ (a == sysModules) = false ∧ ∃ vs, KV kvs vs ∧ h.DictOf (mixKind P w) a vs :=
 show ObjOk P w H h a (.dK kvs) from rd_of ok e
theorem dk_of {kvs : List (Key × V)} (ok : HOk P w H h) (e : H a = some (.dK kvs)) : kvs.length ≤ sizeLine ∧ (a == sysModules) = false ∧ ∃ vs, KV kvs vs ∧ h.DictOf (mixKind P w) a vs := dk_rd ok (.inl e)
theorem key_of {ks : List Key} (ok : HOk P w H h) (e : H a = some (.tup (ks.map kV))) : (tupleKind (mixKind P w)).is h ks a := by
 obtain ⟨_, its, r, o, h1, h2, n, h3⟩ := (show ObjOk P w H h a (.tup (ks.map kV)) from ok a _ e)
 exact ⟨o, its.toArray, n, h1, h2, h3, by simpa using items_are r⟩
theorem dt_rd {kvs : List (List Key × V)} (ok : HOk P w H h) (e : Rd H a (.dT kvs)) : kvs.length ≤ sizeLine ∧ (a == sysModules) = false ∧
  ∃ xs, KT H kvs xs ∧ h.DictOfH (tupleKind (mixKind P w)) a xs := by
 obtain ⟨z, y, xs, r, o, es, ep, h1, h2, h3, h4, h5⟩ := (show ObjOk P w H h a (.dT kvs) from rd_of ok e)
 refine ⟨z, y, xs, r, o, es, ep, h1, h2, h3, h4, fun x hx => ?_, h5⟩
 have all : ∀ {l : List (List Key × V)} {m : List (List Key × Addr × Value)}, KT H l m → ∀ x ∈ m, (tupleKind (mixKind P w)).is h x.1 x.2.1 := by
  intro l m q
  induction q with
  | nil => intro x hx; exact nomatch hx
  | @cons p q ps qs hq t ih =>
   intro x hx
   rcases List.mem_cons.mp hx with e | hx
   ·subst e
    exact key_of ok (by rw [← hq.1]; exact hq.2.1)
   ·exact ih x hx
 exact all r x hx
theorem dt_of {kvs : List (List Key × V)} (ok : HOk P w H h) (e : H a = some (.dT kvs)) : kvs.length ≤ sizeLine ∧ (a == sysModules) = false ∧
  ∃ xs, KT H kvs xs ∧ h.DictOfH (tupleKind (mixKind P w)) a xs := dt_rd ok (.inl e)
end
def DGet (H : Hp) (a : Addr) (y : V) (r : Option V) : Prop :=
 (∃ kvs k, Rd H a (.dK kvs) ∧ y = kV k ∧ r = valV kvs k) ∨ ∃ kvs k b, Rd H a (.dT kvs) ∧ y = .ref b ∧ H b = some (.tup (k.map kV)) ∧ r = valV kvs k
def DPut (H : Hp) (a : Addr) (y v : V) (H' : Hp) : Prop :=
 (∃ kvs k, H a = some (.dK kvs) ∧ y = kV k ∧ kvs.length < sizeLine ∧ H' = upd H a (.dK (putK kvs k v))) ∨
 ∃ kvs k b, H a = some (.dT kvs) ∧ y = .ref b ∧ H b = some (.tup (k.map kV)) ∧ kvs.length < sizeLine ∧ H' = upd H a (.dT (putK kvs k v))
theorem DGet.k {H : Hp} {a : Addr} {kvs : List (Key × V)} {k : Key} (e : H a = some (.dK kvs)) : DGet H a (kV k) (valV kvs k) := .inl ⟨kvs, k, .inl e, rfl, rfl⟩
theorem DGet.t {H : Hp} {a b : Addr} {kvs : List (List Key × V)} {k : List Key} (e : H a = some (.dT kvs)) (eb : H b = some (.tup (k.map kV))) : DGet H a (.ref b) (valV kvs k) := .inr ⟨kvs, k, b, .inl e, rfl, eb, rfl⟩
theorem DPut.k {H : Hp} {a : Addr} {kvs : List (Key × V)} {k : Key} {v : V} (e : H a = some (.dK kvs)) (hl : kvs.length < sizeLine) : DPut H a (kV k) v (upd H a (.dK (putK kvs k v))) := .inl ⟨kvs, k, e, rfl, hl, rfl⟩
theorem DPut.t {H : Hp} {a b : Addr} {kvs : List (List Key × V)} {k : List Key} {v : V} (e : H a = some (.dT kvs)) (eb : H b = some (.tup (k.map kV))) (hl : kvs.length < sizeLine) :
  DPut H a (.ref b) v (upd H a (.dT (putK kvs k v))) := .inr ⟨kvs, k, b, e, rfl, eb, hl, rfl⟩
section
variable {X : Cx} {pins : List (Addr × Obj)} {σ : St} {H : Hp} {s : Shared} {a : Addr} {y v : V} {u r : Value} {o : Option V} {A : Around} {E : Value → Shared → Prop}
theorem Inv.big (I : Inv X pins σ H s) : sysModules < s.heap.objs.size := by
 have h : mainGlobals < s.heap.objs.size := (I.mod.glob.keeps I.bk).lt
 exact Nat.lt_trans (by decide) h
theorem d_getItem {Q : Value → Shared → Prop} (hu : A.units + 1 < cLine) (I : Inv X pins σ H s) (g : DGet H a y (some v)) (ry : RelV y u) (h : ∀ w' s', Inv X pins σ H s' → RelV v w' → Q w' s') :
  wpAny (model X.prog X.w) A (getItem (.ref a) u) Q E s := by
 rcases g with ⟨kvs, k, e, ey, l⟩ | ⟨kvs, k, b, e, ey, eb, l⟩
 ·subst ey
  obtain ⟨z, hd, vs, rel, dd⟩ := dk_rd I.hok e
  obtain ⟨w', hw, rw'⟩ := RelO.some_of (v := v) (o := valueAt vs k) (by rw [l]; exact rel.val k)
  exact wpAny_getItem_of (kV_is ry) dd.mapOf hw (h w' _ (I.tok _) rw')
 ·subst ey
  cases (show u = Value.ref b from ry)
  obtain ⟨z, hd, xs, rel, dd⟩ := dt_rd I.hok e
  obtain ⟨w', hw, rw'⟩ := RelO.some_of (v := v) (o := (atKey xs k).map (·.2)) (by rw [l]; exact rel.val k)
  obtain ⟨p, hp, hp2⟩ := Option.map_eq_some_iff.mp hw
  refine wpAny_getItem_heap (tupleKind_room_in1 hu) (key_of I.hok eb) dd hp ?_
  rw [hp2]
  exact h w' _ (I.tok _) rw'
theorem d_in {Q : Value → Shared → Prop} (hu : A.units + 1 < cLine) (I : Inv X pins σ H s) (g : DGet H a y o) (ry : RelV y u) (h : ∀ s', Inv X pins σ H s' → Q (.bool o.isSome) s') :
  wpAny (model X.prog X.w) A (compareOp .In u (.ref a)) Q E s := by
 rcases g with ⟨kvs, k, e, ey, l⟩ | ⟨kvs, k, b, e, ey, eb, l⟩
 ·subst ey
  obtain ⟨z, hd, vs, rel, dd⟩ := dk_rd I.hok e
  refine wpAny_in_of (kV_is ry) hd dd.mapOf ?_
  rw [← (rel.val k).isSome_eq, ← l]
  exact h _ (I.tok _)
 ·subst ey
  cases (show u = Value.ref b from ry)
  obtain ⟨z, hd, xs, rel, dd⟩ := dt_rd I.hok e
  refine wpAny_in_heap (tupleKind_room_in1 hu) (key_of I.hok eb) hd dd ?_
  have q := (rel.val k).isSome_eq
  rw [Option.isSome_map] at q
  rw [← q, ← l]
  exact h _ (I.tok _)
theorem d_notIn {Q : Value → Shared → Prop} (hu : A.units + 1 < cLine) (I : Inv X pins σ H s) (g : DGet H a y o) (ry : RelV y u) (h : ∀ s', Inv X pins σ H s' → Q (.bool (!o.isSome)) s') :
  wpAny (model X.prog X.w) A (compareOp .NotIn u (.ref a)) Q E s := by
 rcases g with ⟨kvs, k, e, ey, l⟩ | ⟨kvs, k, b, e, ey, eb, l⟩
 ·subst ey
  obtain ⟨z, hd, vs, rel, dd⟩ := dk_rd I.hok e
  refine wpAny_notIn_of (kV_is ry) hd dd.mapOf ?_
  rw [← (rel.val k).isSome_eq, ← l]
  exact h _ (I.tok _)
 ·subst ey
  cases (show u = Value.ref b from ry)
  obtain ⟨z, hd, xs, rel, dd⟩ := dt_rd I.hok e
  refine wpAny_notIn_heap (tupleKind_room_in1 hu) (key_of I.hok eb) hd dd ?_
  have q := (rel.val k).isSome_eq
  rw [Option.isSome_map] at q
  rw [← q, ← l]
  exact h _ (I.tok _)
theorem d_write {h' : Heap} {t' : Nat} {ob : HO} (I : Inv X pins σ H s) (mu : Mut (H a)) (hs : Heap.SameBut a s.heap h') (he : ∃ q, h'.get? a = some q) (new : ObjOk X.prog X.w (upd H a ob) h' a ob) :
  Inv X pins σ (upd H a ob) { s with heap := h', toks := t' } :=
 I.write (x := a) (e := a) mu (.inl rfl) (fun b q hb z => (hs.2 b hb).trans z) he new
theorem dk_new {P : Program} {w : World} {H' : Hp} {h' : Heap} {kvs : List (Key × V)} {vs : List (Key × Value)} (z : kvs.length ≤ sizeLine) (hd : (a == sysModules) = false) (rel : KV kvs vs) (dd : h'.DictOf (mixKind P w) a vs) :
  ObjOk P w H' h' a (.dK kvs) := ⟨z, hd, vs, rel, dd⟩
theorem d_setItem {H' : Hp} {Q : Unit → Shared → Prop} (hu : A.units + 1 < cLine) (I : Inv X pins σ H s) (g : DPut H a y v H') (ry : RelV y u) (rv : RelV v r) (h : ∀ s', Inv X pins σ H' s' → Q () s') :
  wpAny (model X.prog X.w) A (setItem (.ref a) u r) Q E s := by
 rcases g with ⟨kvs, k, e, ey, l, eH⟩ | ⟨kvs, k, b, e, ey, eb, l, eH⟩
 ·subst ey eH
  obtain ⟨z, hd, vs, rel, dd⟩ := dk_of I.hok e
  have hz : vs.length ≤ sizeLine := by rw [← rel.length]; exact z
  have hl : (putK kvs k v).length ≤ sizeLine := by have := length_putK kvs k v; omega
  refine wpAny_setItem_pairs (hsz := hz) (kV_is ry) dd fun h' dd' hs => h _ ?_
  have he : ∃ q, h'.get? a = some q := let ⟨q, _, _, hq, _⟩ := dd'; ⟨q, hq⟩
  exact d_write I (by rw [e]; exact True.intro) hs he (dk_new hl hd (rel.put k rv) dd')
 ·subst ey eH
  cases (show u = Value.ref b from ry)
  obtain ⟨z, hd, xs, rel, dd⟩ := dt_of I.hok e
  have hz : xs.length ≤ sizeLine := by rw [← Paired.length rel]; exact z
  have hl : (putK kvs k v).length ≤ sizeLine := by have := length_putK kvs k v; omega
  refine wpAny_setItem_heap (hsz := hz) (tupleKind_room_in1 hu) (key_of I.hok eb) dd fun h' dd' hs => h _ ?_
  obtain ⟨q, es, ep, hq, h2, h3, h4, _, h5⟩ := dd'
  refine d_write I (by rw [e]; exact True.intro) hs ⟨q, hq⟩ ⟨hl, hd, _, (rel.put k eb rv).keeps fun c ys ec => ?_, q, es, ep, hq, h2, h3, h4, h5⟩
  rw [upd_ne (ne_of ec e (fun z => nomatch z))]
  exact ec
end
section
variable {X : Cx} {pins : List (Addr × Obj)} {σ : St} {H : Hp} {s : Shared} {a : Addr} {kvs : List (Key × V)} {k : Key} {u : Value} {A : Around} {E : Value → Shared → Prop}
end
def NoSl (i : Expr) : Prop := ∀ ov iv, subscripted i false ov iv = operate [ov, iv] (getItem ov iv)
theorem subD_of {prog : Program} {w : World} {A : Around} {E : Value → Shared → Prop} {s : Shared} {env : Env} {value slice : Expr} {pos : Pos} {T id : String} {Q : Value → Shared → Prop}
  (hl : typeLookup (.type T) "__getitem__" = pure (some (.builtin id))) (hs : NoSl slice)
  (h : wpAny (model prog w) A (eval value env) (fun o s₁ => wpAny (model prog w) A (eval slice env) (fun i s₂ => s₂.TypeIs o T ∧ wpAny (model prog w) A (getItem o i) Q E s₂) E s₁) E s) :
  wpAny (model prog w) A (eval (.Subscript value slice pos) env) Q E s := by
 refine Subscript_ (wpAny_mono h (fun o s₁ h₁ => wpAny_mono h₁ (fun i s₂ h₂ => ?_) fun _ _ x => x) fun _ _ x => x)
 obtain ⟨hT, h₂⟩ := h₂
 unfold subscriptTail
 refine wpAny_bind ?_
 rw [getitemInPython_of_ne hT.not_modules]
 refine wpAny_bind (wpAny_specialOf hT hl ?_)
 have fin : wpAny (model prog w) A (subscripted slice false o i) (fun r s₃ => wpAny (model prog w) A (letTemporaryGo value o r >>= fun _ => pure r) Q E s₃) E s₂ := by
  rw [hs o i]
  exact wpAny_operating (wpAny_mono h₂ (fun r s₃ h₃ => wpAny_bind (wpAny_letTemporaryGo (wpAny_pure h₃))) fun _ _ x => x)
 first
  | exact wpAny_pure (wpAny_bind fin)
  | exact wpAny_bind (wpAny_pure (wpAny_bind fin))
  | exact wpAny_bind fin
theorem dict_typeIs {X : Cx} {pins : List (Addr × Obj)} {σ : St} {H : Hp} {s : Shared} {a : Addr} {y : V} {o : Option V} (I : Inv X pins σ H s) (g : DGet H a y o) : s.TypeIs (.ref a) "dict" := by
 rcases g with ⟨kvs, k, e, _, _⟩ | ⟨kvs, k, b, e, _, _, _⟩
 ·obtain ⟨_, _, vs, _, dd⟩ := dk_rd I.hok e
  exact dd.typeIs
 ·obtain ⟨_, _, xs, _, dd⟩ := dt_rd I.hok e
  exact dd.typeIs
def tDGet (td ty : TE) : TE := fun σ H Q => td σ H fun x H1 => ty σ H1 fun y H2 => ∃ a v, x = .ref a ∧ DGet H2 a y (some v) ∧ Q v H2
def tDIn (ty td : TE) : TE := fun σ H Q => ty σ H fun y H1 => td σ H1 fun x H2 => ∃ a o, x = .ref a ∧ DGet H2 a y o ∧ Q (.bl o.isSome) H2
def tDNotIn (ty td : TE) : TE := fun σ H Q => ty σ H fun y H1 => td σ H1 fun x H2 => ∃ a o, x = .ref a ∧ DGet H2 a y o ∧ Q (.bl (!o.isSome)) H2
def sDPut (td ty tv : TE) : TS := fun D σ H => tv σ H fun v H1 => td σ H1 fun x H2 => ty σ H2 fun y H3 => ∃ a H4, x = .ref a ∧ DPut H3 a y v H4 ∧ D.nx σ H4
section
variable {X : Cx} {o i e value : Expr} {pos pos' tpos : Pos} {td ty tv : TE}
theorem pe_dget (hu : X.A.units + 1 < cLine) (ho : PE X o td) (hi : PE X i ty) (hs : NoSl i) : PE X (.Subscript o i pos) (tDGet td ty) := by
 intro pins s σ H Q I h
 refine subD_of PySem.F.slot_dict_getitem.lookup hs (thn (ho pins s σ H _ I h) fun u s1 ⟨x, H1, I1, rx, q1⟩ => thn (hi pins s1 σ H1 _ I1 q1) fun iv s2 ⟨y, H2, I2, ry, a, v, ex, g, q2⟩ => ?_)
 subst ex
 obtain rfl : u = Value.ref a := rx
 exact ⟨dict_typeIs I2 g, d_getItem hu I2 g ry fun w' s3 I3 rw' => ⟨v, H2, I3, rw', q2⟩⟩
theorem pc_din (hu : X.A.units + 1 < cLine) (hi : PE X i ty) (ho : PE X o td) : PC X .In i o (tDIn ty td) := by
 intro pins s σ H Q I h
 refine thn (hi pins s σ H _ I h) fun iv s1 ⟨y, H1, I1, ry, q1⟩ => thn (ho pins s1 σ H1 _ I1 q1) fun u s2 ⟨x, H2, I2, rx, a, ov, ex, g, q2⟩ => ?_
 subst ex
 obtain rfl : u = Value.ref a := rx
 exact d_in hu I2 g ry fun s3 I3 => ⟨.bl ov.isSome, H2, I3, rfl, q2⟩
theorem pc_dnotin (hu : X.A.units + 1 < cLine) (hi : PE X i ty) (ho : PE X o td) : PC X .NotIn i o (tDNotIn ty td) := by
 intro pins s σ H Q I h
 refine thn (hi pins s σ H _ I h) fun iv s1 ⟨y, H1, I1, ry, q1⟩ => thn (ho pins s1 σ H1 _ I1 q1) fun u s2 ⟨x, H2, I2, rx, a, ov, ex, g, q2⟩ => ?_
 subst ex
 obtain rfl : u = Value.ref a := rx
 exact d_notIn hu I2 g ry fun s3 I3 => ⟨.bl (!ov.isSome), H2, I3, rfl, q2⟩
theorem ps_dput (hu : X.A.units + 1 < cLine) (ho : PE X o td) (hi : PE X i ty) (hv : PE X value tv) (hs : swapsWith value (some (.Subscript o i pos')) pos.line X.env = pure false) :
  PS X (.Assign [.Subscript o i pos'] value pos) (sDPut td ty tv) := by
 intro pins s σ H D I h
 refine wpAny_Assign_Subscript (thn (hv pins s σ H _ I h) fun r s1 ⟨v, H1, I1, rv, q1⟩ => thn (ho pins s1 σ H1 _ I1 q1) fun u s2 ⟨x, H2, I2, rx, q2⟩ => thn (hi pins s2 σ H2 _ I2 q2) fun iv s3 ⟨y, H3, I3, ry, a, H4, ex, g, q3⟩ => ?_) hs
 subst ex
 obtain rfl : u = Value.ref a := rx
 exact d_setItem hu I3 g ry rv fun s4 I4 => ⟨σ, H4, I4, q3⟩
end
theorem dk_empty {P : Program} {w : World} {H : Hp} (h : Heap) (hb : sysModules < h.objs.size) : ObjOk P w H (h.push { cls := .type "dict", data := .dict #[] }) h.objs.size (.dK []) :=
 ⟨Nat.zero_le _, beq_eq_false_iff_ne.mpr (Ne.symm (Nat.ne_of_lt hb)), [], .nil, Heap.DictOf.new h⟩
theorem dt_empty {P : Program} {w : World} {H : Hp} (h : Heap) (hb : sysModules < h.objs.size) : ObjOk P w H (h.push { cls := .type "dict", data := .dict #[] }) h.objs.size (.dT []) :=
 ⟨Nat.zero_le _, beq_eq_false_iff_ne.mpr (Ne.symm (Nat.ne_of_lt hb)), [], .nil, _, #[], 0, Heap.get?_push_size _ rfl, ⟨rfl, rfl, rfl⟩, rfl, rfl, List.nodup_nil⟩
def tDNewK : TE := fun _ H Q => ∀ p, H p = none → Q (.ref p) (upd H p (.dK []))
def tDNewT : TE := fun _ H Q => ∀ p, H p = none → Q (.ref p) (upd H p (.dT []))
section
variable {X : Cx} {pos : Pos}
theorem pe_dnewK : PE X (.Dict [] [] pos) tDNewK := fun pins s σ H Q I h =>
 wpAny_Dict_empty ⟨.ref s.heap.objs.size, _, I.laid (a := s.heap.objs.size) (o := .dK []) (t' := s.toks) (fun _ _ q => Heap.get?_push_of_some _ q) (Nat.le_refl _) (dk_empty s.heap I.big), rfl, h _ (I.hok.fresh (Nat.le_refl _))⟩
theorem pe_dnewT : PE X (.Dict [] [] pos) tDNewT := fun pins s σ H Q I h =>
 wpAny_Dict_empty ⟨.ref s.heap.objs.size, _, I.laid (a := s.heap.objs.size) (o := .dT []) (t' := s.toks) (fun _ _ q => Heap.get?_push_of_some _ q) (Nat.le_refl _) (dt_empty s.heap I.big), rfl, h _ (I.hok.fresh (Nat.le_refl _))⟩
end
structure M1 (X : Cx) (o : Expr) (m : Str) (apos : Pos) (e : Expr) (cpos : Pos) : Prop where
 base : attributeBase o m X.env (eval o X.env) = eval o X.env
 few : ((backTo cpos (starEach [e] X.env)).all (fun x => !x.1) && (backToKw cpos (keywordEach [] X.env)).all (fun x => x.1.isSome)
  && decide (([e] : List Expr).length + ([] : List Keyword).length + (if ([] : List Keyword).isEmpty then 0 else 1) < 30)) = true
 line : (apos.endLine == cpos.line) = true
 trees : backTo cpos (starEach [e] X.env) = [(false, eval e X.env)]
def IsD (H : Hp) (a : Addr) : Prop := (∃ kvs, Rd H a (.dK kvs)) ∨ ∃ kvs, Rd H a (.dT kvs)
theorem isD_at {X : Cx} {pins : List (Addr × Obj)} {σ : St} {H : Hp} {s : Shared} {a : Addr} (I : Inv X pins σ H s) (d : IsD H a) :
  s.TypeIs (.ref a) "dict" ∧ (∀ b, Value.ref a = .ref b → ∃ ob, s.heap.get? b = some ob ∧ ob.dict = none) ∧ (a == sysModules) = false := by
 rcases d with ⟨kvs, e⟩ | ⟨kvs, e⟩
 ·obtain ⟨_, hd, vs, _, dd⟩ := dk_rd I.hok e
  refine ⟨dd.typeIs, fun b q => ?_, hd⟩
  cases q
  obtain ⟨ob, _, _, h1, h2, _⟩ := dd
  exact ⟨ob, h1, h2.2.1⟩
 ·obtain ⟨_, hd, xs, _, dd⟩ := dt_rd I.hok e
  refine ⟨dd.typeIs, fun b q => ?_, hd⟩
  cases q
  obtain ⟨ob, _, _, h1, h2, _⟩ := dd
  exact ⟨ob, h1, h2.2.1⟩
section
variable {X : Cx} {pins : List (Addr × Obj)} {σ : St} {H : Hp} {s : Shared} {a : Addr} {y d : V} {u r : Value} {o : Option V} {A : Around} {E : Value → Shared → Prop}
theorem d_get1 {Q : Value → Shared → Prop} (hu : A.units + 1 < cLine) (I : Inv X pins σ H s) (g : DGet H a y o) (ry : RelV y u) (h : ∀ w' s', Inv X pins σ H s' → RelV (o.getD .non) w' → Q w' s') :
  wpAny (model X.prog X.w) A (call (.builtin "dict.get") [.ref a, u]) Q E s := by
 rcases g with ⟨kvs, k, e, ey, l⟩ | ⟨kvs, k, b, e, ey, eb, l⟩
 ·subst ey
  obtain ⟨z, hd, vs, rel, dd⟩ := dk_rd I.hok e
  refine call_meetsIn PySem.F.slot_dict_get dd.typeIs PySem.F.entry_dict_get (PySem.F.args_dict_get_2 _ _) (meets_dict_get (mixKind X.prog X.w) a (kV_is ry) hd) ⟨_, dd.mapOf, h _ _ (I.tok _) ?_⟩
  rw [l]
  exact (rel.val k).getD rfl
 ·subst ey
  cases (show u = Value.ref b from ry)
  obtain ⟨z, hd, xs, rel, dd⟩ := dt_rd I.hok e
  refine call_meetsIn PySem.F.slot_dict_get dd.typeIs PySem.F.entry_dict_get (PySem.F.args_dict_get_2 _ _) (meetsH_dict_get (tupleKind (mixKind X.prog X.w)) a b hd) ⟨tupleKind_room_in1 hu, k, xs, key_of I.hok eb, dd, h _ _ (I.tok _) ?_⟩
  rw [l]
  exact (rel.val k).getD rfl
end
def tDGet1 (td ty : TE) : TE := fun σ H Q => td σ H fun x H1 => ∃ a, x = .ref a ∧ IsD H1 a ∧ ty σ H1 fun y H2 => ∃ o, DGet H2 a y o ∧ Q (o.getD .non) H2
section
variable {X : Cx} {o e f : Expr} {apos cpos : Pos} {td ty tx : TE}
theorem pe_dget1 (hu : X.A.units + 1 < cLine) (ho : PE X o td) (he : PE X e ty) (m : M1 X o "get" apos e cpos) : PE X (.Call (.Attribute o "get" apos) [e] [] cpos) (tDGet1 td ty) := by
 intro pins s σ H Q I h
 refine wpAny_Call_method m.base m.few m.line PySem.F.plainAttrs_dict PySem.F.slot_dict_get PySem.F.type_dict_get (thn (ho pins s σ H _ I h) fun u s1 ⟨x, H1, I1, rx, a, ex, d, q1⟩ => ?_)
 subst ex
 obtain rfl : u = Value.ref a := rx
 obtain ⟨t1, t2, _⟩ := isD_at I1 d
 refine ⟨t1, t2, ?_⟩
 rw [m.trees]
 refine Calls.callWith_builtin rfl (Calls.evalArgs_plain (Calls.spliced_cons (thn (he pins s1 σ H1 _ I1 q1) fun iv s2 ⟨y, H2, I2, ry, ov, g, q2⟩ => Calls.spliced_nil ?_)))
 exact d_get1 hu I2 g ry fun w' s3 I3 rw' => ⟨_, H2, I3, rw', q2⟩
end
section
variable {X : Cx} {pins : List (Addr × Obj)} {σ : St} {H : Hp} {s : Shared} {a : Addr} {kvs : List (Key × V)} {A : Around} {E : Value → Shared → Prop}
end
section
variable {X : Cx} {pins : List (Addr × Obj)} {σ : St} {H : Hp} {s : Shared} {a : Addr} {y : V} {u : Value} {A : Around} {E : Value → Shared → Prop}
end
end L2
namespace L2
open PySem PySem.Spec PyProof.Rows
section
variable {prog : Program} {w : World} {A : Around} {E : Value → Shared → Prop}
end
section
variable {X : Cx}
end
end L2
namespace L2
open PySem PySem.Spec PyProof.Rows
theorem boot_reversed5 : bootBuiltins "reversed" = some (.type "reversed") := by decide +kernel
section
variable {X : Cx} {pins : List (Addr × Obj)} {σ : St} {H : Hp} {s : Shared} {h' : Heap}
theorem Inv.turnedL {t' : Nat} {ch : List Addr} (I : Inv X pins σ H s) (k : ∀ b o, b ∉ ch → s.heap.get? b = some o → h'.get? b = some o) (hf : ∀ b ∈ ch, FpOk X pins H b) : Inv X pins σ H { s with heap := h', toks := t' } := by
 have nit : ∀ b u, H b = some u → b ∉ ch := fun b u e z => by
  have q := (hf b z).1
  rw [q] at e; cases e
 refine I.step (g' := s.gens) (d' := s.drawn) (ch := ch) (fun b hb => ⟨(hf b hb).2.2.2.1, (hf b hb).2.1, (hf b hb).2.2.2.2.1, (hf b hb).2.2.2.2.2⟩) (fun b o _ _ hc e _ => k b o hc e) (fun b o _ _ hc e _ => ⟨o.slots, k b o hc e⟩)
  (fun _ _ _ _ n => n) (fun b o hc e => ⟨o, k b o hc e⟩) (fun _ _ e => e) (fun _ _ _ e => e) (fun b ps e => ⟨#[], by rw [e]; simp⟩) (fun m hm => ?_) (fun b u e => ?_) I.bare
 ·obtain ⟨o, es, ep, ho, r⟩ := hm
  exact ⟨o, es, ep, k _ o (fun z => (hf _ z).2.1 rfl) ho, r⟩
 ·refine (I.hok b u e).stay (fun c v hc q => k c v ?_ q) (fun _ q => q) fun _ _ q => q
  rcases hc with z | z
  ·rw [z]; exact nit b u e
  ·exact nit c _ z
theorem Inv.turnedNew {t' : Nat} {ch : List Addr} {T : Addr} {ob : HO} (I : Inv X pins σ H s) (k : ∀ b o, b ∉ ch → s.heap.get? b = some o → h'.get? b = some o) (hf : ∀ b ∈ ch, FpOk X pins H b) (hT : s.heap.objs.size ≤ T)
  (new : ObjOk X.prog X.w (upd H T ob) h' T ob) : Inv X pins σ (upd H T ob) { s with heap := h', toks := t' } := by
 have hn : H T = none := I.hok.fresh hT
 have nit : ∀ b u, H b = some u → b ∉ ch := fun b u e z => by
  have q := (hf b z).1
  rw [q] at e; cases e
 refine I.step (g' := s.gens) (d' := s.drawn) (ch := ch) (fun b hb => ⟨(hf b hb).2.2.2.1, (hf b hb).2.1, (hf b hb).2.2.2.2.1, (hf b hb).2.2.2.2.2⟩) (fun b o _ _ hc e _ => k b o hc e) (fun b o _ _ hc e _ => ⟨o.slots, k b o hc e⟩)
  (fun b o _ e n => ?_) (fun b o hc e => ⟨o, k b o hc e⟩) (fun b xs e => ?_) (fun b o u e => ?_) (fun b ps e => ⟨#[], ?_⟩) (fun m hm => ?_) (fun b u e => ?_) I.bare
 ·rw [upd_ne (Nat.ne_of_lt (Nat.lt_of_lt_of_le (Heap.lt_size e) hT))]; exact n
 ·rw [upd_ne (ne_of_none e hn)]; exact e
 ·rw [upd_ne (ne_of_none e hn)]; exact e
 ·rw [upd_ne (ne_of_none e hn), e]; simp
 ·obtain ⟨o, es, ep, ho, r⟩ := hm
  exact ⟨o, es, ep, k _ o (fun z => (hf _ z).2.1 rfl) ho, r⟩
 ·by_cases hb : b = T
  ·subst hb
   rw [upd_same] at e
   cases e
   exact new
  ·rw [upd_ne hb] at e
   refine (I.hok b u e).stay (fun c v hc q => k c v ?_ q) (fun c q => by rw [upd_ne (ne_of_none q hn)]; exact q) fun c xs q => by rw [upd_ne (ne_of_none q hn)]; exact q
   rcases hc with z | z
   ·rw [z]; exact nit b u e
   ·exact nit c _ z
theorem Inv.lock {d : Addr} {u : HO} (I : Inv X pins σ H s) (h : H d = some u) (mu : Mut (some u)) : ∃ od, Inv X pins σ (upd H d (.frz od u)) s := by
 have x := I.hok d u h
 have ex : ∃ od, s.heap.get? d = some od := by
  cases u with
  | lst xs => obtain ⟨_, _, _, _, e⟩ := x; exact ⟨_, e⟩
  | dK kvs => obtain ⟨_, _, _, _, o, _, _, e, _⟩ := x; exact ⟨o, e⟩
  | dT kvs => obtain ⟨_, _, _, _, o, _, _, e, _⟩ := x; exact ⟨o, e⟩
  | set S n => obtain ⟨o, _, _, _, e, _⟩ := x; exact ⟨o, e⟩
  | ins C dx fs => obtain ⟨_, _, _, e, _⟩ := x; exact ⟨_, e⟩
  | ext φ => obtain ⟨_, ⟨_, e⟩, _⟩ := x; exact ⟨_, e⟩
  | _ => exact False.elim mu
 obtain ⟨od, e⟩ := ex
 have new : ObjOk X.prog X.w (upd H d (.frz od u)) s.heap d (.frz od u) := by
  refine ⟨e, x.stay (fun b v _ q => q) (fun b q => ?_) fun b xs q => ?_⟩
  ·rw [upd_ne (fun z => by rw [z, h] at q; cases q; exact mu)]; exact q
  ·rw [upd_ne (fun z => by rw [z, h] at q; cases q; exact mu)]; exact q
 exact ⟨od, I.write (x := d) (e := d) (t' := s.toks) (h' := s.heap) (by rw [h]; exact mu) (.inl rfl) (fun b v _ q => q) ⟨od, e⟩ new⟩
theorem Inv.nofrz {d : Addr} {u : HO} (I : Inv X pins σ H s) (h : H d = some u) (mu : Mut (some u)) : ∀ o' u', X.H_0 d ≠ some (.frz o' u') := fun o' u' e => by
 have q := I.base.frzs d o' u' e
 rw [h] at q
 cases q
 exact mu
theorem Inv.unlock {d : Addr} {od : Obj} {u : HO} (I : Inv X pins σ H s) (h : H d = some (.frz od u)) (hn : ∀ o' u', X.H_0 d ≠ some (.frz o' u')) : Inv X pins σ (upd H d u) s := by
 have neH : ∀ b o, H b = some o → (∀ o' u', o ≠ .frz o' u') → b ≠ d := fun b o e hne z => by
  rw [z, h] at e
  cases e
  exact hne _ _ rfl
 have neN : ∀ b, H b = none → b ≠ d := fun b e z => by rw [z, h] at e; cases e
 refine ⟨I.ok, I.os, I.bare, ⟨I.base.keep, I.base.slot, fun b o e n hx => ?_, I.base.there, fun b xs e => ?_, fun b o x e => ?_, fun b ps e => ?_⟩, I.loc, I.cell, ?_, fun x c e => ?_, fun p hp => ?_, fun b o e => ?_, I.len⟩
 ·rw [upd_ne (neN b (I.base.free b o e n hx))]; exact I.base.free b o e n hx
 ·have q := I.base.tups b xs e
  rw [upd_ne (neH b _ q (fun _ _ z => nomatch z))]; exact q
 ·have q := I.base.frzs b o x e
  rw [upd_ne (fun z => by rw [z] at e; exact hn _ _ e)]; exact q
 ·obtain ⟨m, q⟩ := I.base.tbls b ps e
  exact ⟨m, by rw [upd_ne (neH b _ q (fun _ _ z => nomatch z))]; exact q⟩
 ·rw [upd_ne (neN _ I.free)]; exact I.free
 ·rw [upd_ne (neN c (I.freeC x c e))]; exact I.freeC x c e
 ·obtain ⟨e, n, r⟩ := I.pin p hp
  exact ⟨e, by rw [upd_ne (neN _ n)]; exact n, r⟩
 ·by_cases hb : b = d
  ·rw [hb, upd_same] at e
   cases e
   rw [hb]
   obtain ⟨_, x⟩ := I.hok d _ h
   exact x.stay (fun c v _ q => q) (fun c q => by rw [upd_ne (neH c _ q (fun _ _ z => nomatch z))]; exact q) fun c xs q => by rw [upd_ne (neH c _ q (fun _ _ z => nomatch z))]; exact q
  ·rw [upd_ne hb] at e
   exact (I.hok b o e).stay (fun c v _ q => q) (fun c q => by rw [upd_ne (neH c _ q (fun _ _ z => nomatch z))]; exact q) fun c xs q => by rw [upd_ne (neH c _ q (fun _ _ z => nomatch z))]; exact q
end
def tLockE (t : TE) : TE := fun σ H Q => ∃ d u, H d = some u ∧ Mut (some u) ∧ ∀ od, t σ (upd H d (.frz od u)) fun v H' => H' d = some (.frz od u) ∧ Q v (upd H' d u)
section
variable {X : Cx}
theorem pe_lock {e : Expr} {t : TE} (h : PE X e t) : PE X e (tLockE t) := by
 intro pins s σ H Q I hw
 obtain ⟨d, u, hd, mu, hw⟩ := hw
 obtain ⟨od, I1⟩ := I.lock hd mu
 refine thn (h pins s σ _ _ I1 (hw od)) fun v s1 ⟨x, H1, I2, r, e2, q⟩ => ?_
 exact ⟨x, _, I2.unlock e2 (I.nofrz hd mu), r, q⟩
theorem pi_one {tg : Expr} {pins : List (Addr × Obj)} {σ : St} {H : Hp} {s : Shared} {R : It → Hp → Prop} {J : It} {tn : Nat → Heap → Prop} {tk : Nat} (I : Inv X pins σ H s) (o : Obj)
  (T : Turn X.prog X.w X.K tg J [s.heap.objs.size] s.heap.objs.size tn) (st : tn 0 (s.heap.push o)) (q : R J H) : PIE X pins σ tg R (.ref s.heap.objs.size) { s with heap := s.heap.push o, toks := tk } := by
 refine ⟨s.heap.objs.size, [s.heap.objs.size], tn, J, H, rfl, I.kept fun b ob e => Heap.get?_push_of_some _ e, T, st, fun b hb => ?_, q⟩
 have e : b = s.heap.objs.size := by simpa using hb
 subst e
 exact I.fpOk (Nat.le_refl _) (I.hok.fresh (Nat.le_refl _))
end
def Itc (lo c : Int) (n : Nat) : It := ⟨fun i _ => i < n, fun i H x H' => H' = H ∧ x = .int (lo + (i : Nat) * c), fun i _ => n ≤ i⟩
theorem turn_rangeC {P : Program} {w : World} {K : PySem.W.Frag} {tg : Expr} (it : Addr) (lo c : Int) (n : Nat) : Turn P w K tg (Itc lo c n) [it] it (fun i h => IsRangeIter h it (lo + (i : Nat) * c) ((n : Int) - (i : Nat)) c) where
 mem := by simp
 obj := fun i h st b hb => by
  have e : b = it := by simpa using hb
  subst e
  exact ⟨_, st, fun v z => nomatch z⟩
 keep := fun i h h' st k => k it (by simp) _ st
 item := by
  intro X hP hw hK hc i pins s σ H E I hf st hg
  subst hP hw hK
  obtain ⟨f0, f1, f2, f3, f4, f5⟩ := hf it (by simp)
  have W := Walks.range (prog := X.prog) (w := X.w) (I.ok.hd hc) it lo c n
  refine W.item i s _ _ hg st fun v h' tk hv st' kk => ?_
  obtain ⟨t, rfl⟩ := hv
  have I1 : Inv X pins σ H { s with heap := h', toks := tk } := I.turned (fun b o hb e => kk b o (by simpa using hb) e) f0 f1 f3 f4 f5
  exact ⟨_, rfl, go_of (s := { s with heap := h', toks := tk }) (n := "range_iterator") st' rfl rfl (by decide) ⟨.int (lo + (i : Nat) * c), H, I1, ⟨t, rfl⟩, ⟨rfl, rfl⟩, st', fun b hb => (hf b hb).1⟩⟩
 done := by
  intro X hP hw hK hc i pins s σ H E I hf st hg
  subst hP hw hK
  obtain ⟨f0, f1, f2, f3, f4, f5⟩ := hf it (by simp)
  exact wpAny_pyNext_range_end (I.ok.hd hc) st (by have : n ≤ i := hg; omega) fun h' eb => ⟨rfl, I.turned (t' := s.toks) (fun b o hb e => eb b o hb e) f0 f1 f3 f4 f5⟩
 self := fun A i s Q E st h => wpAny_pyIter_rangeiter st h
def RgC (i j c : Int) (n : Nat) : Prop := c ≠ 0 ∧ c.natAbs < 1073741824 ∧ Builtin.Range.small i j c = true ∧ Builtin.Range.rangeSize i j c = n
def iRng3 (ta : TA) : TI := fun σ H R => ta σ H fun vs H1 => ∃ (i j c : Int) (n : Nat), vs = [.int i, .int j, .int c] ∧ RgC i j c n ∧ R (Itc i c n) H1
section
variable {X : Cx} {tg : Expr}
theorem pi_range3 {a b c : Expr} {ta : TA} {p pos : Pos} (hg : Gl X "range") (hm : X.mg "range" = none) (ha : PA X [a, b, c] ta)
  (hs : starEach [a, b, c] X.env = (false, eval a X.env) :: starEach [b, c] X.env := by rfl) (hpl : (backTo pos (starEach [b, c] X.env)).any (·.1) = false := by rfl) :
  PI X tg (.Call (.Name "range" p) [a, b, c] [] pos) (iRng3 ta) := by
 intro pins s σ H R I h
 refine Call_ (ld_blt I hg hm boot_range (PyProof.Rows.callWith_type1 (thn (ha pos pins s σ H _ I h) fun us s1 ⟨vs, H1, I1, r1, q1⟩ => ?_) hs hpl))
 obtain ⟨i, j, k, n, e, ⟨c0, c1, c2, c3⟩, q⟩ := q1
 subst e
 cases r1 with
 | cons r rr =>
  cases rr with
  | cons r' rr =>
   cases rr with
   | cons r'' rr =>
    cases rr
    obtain ⟨t, rfl⟩ := r
    obtain ⟨t', rfl⟩ := r'
    obtain ⟨t'', rfl⟩ := r''
    refine call_range_3 c0 ?_ (.inl (PyProof.noPylong_small c1))
    refine wpAny_pyIter_range (IsRange.new ..) c2 ?_
    have I2 : Inv X pins σ H1 { s1 with heap := s1.heap.push { cls := .type "range", data := .fields #[.int i t, .int j t', .int k t''] } } := I1.kept (t' := s1.toks) fun b o e => Heap.get?_push_of_some _ e
    refine pi_one (tk := s1.toks) I2 _ (turn_rangeC _ i k n) ?_ q
    have e1 : i + ((0 : Nat) : Int) * k = i := by simp
    have e2 : (n : Int) - ((0 : Nat) : Int) = Builtin.Range.rangeSize i j k := by rw [c3]; simp
    show IsRangeIter _ _ (i + ((0 : Nat) : Int) * k) ((n : Int) - ((0 : Nat) : Int)) k
    rw [e1, e2]
    exact Heap.get?_push_size _ rfl
end
theorem for_rangeC {lo c : Int} {n : Nat} {g : TG} {tb : TS} {D : Ends} {σ : St} {H : Hp} (Pv : Nat → St → Hp → Prop) (h0 : Pv 0 σ H)
  (hs : ∀ i σ H, i < n → Pv i σ H → g (.int (lo + (i : Nat) * c)) σ H fun σ2 H2 => tb { D with nx := Pv (i + 1), ct := Pv (i + 1), bk := D.nx } σ2 H2) (hd : ∀ σ H, Pv n σ H → D.nx σ H) :
  ∃ W : Nat → Nat → St → Hp → Prop, (∃ m, W 0 m σ H) ∧ ∀ i m σ H, W i m σ H →
   ((Itc lo c n).stop i H ∧ D.nx σ H) ∨ ((Itc lo c n).go i H ∧ ∃ N : St → Hp → Prop, (∀ σ' H', N σ' H' → ∃ m', m' < m ∧ W (i + 1) m' σ' H') ∧ ∀ x H', (Itc lo c n).yld i H x H' → g x σ H' fun σ2 H2 => tb { D with nx := N, ct := N, bk := D.nx } σ2 H2) := by
 refine ⟨fun i m σ H => m = n - i ∧ i ≤ n ∧ Pv i σ H, ⟨n, by simp, Nat.zero_le _, h0⟩, ?_⟩
 rintro i m σ H ⟨rfl, hi, p⟩
 by_cases hlt : i < n
 ·refine .inr ⟨hlt, Pv (i + 1), fun σ' H' p' => ⟨n - (i + 1), by omega, rfl, hlt, p'⟩, fun x H' y => ?_⟩
  obtain ⟨e, y⟩ := y
  subst e y
  exact hs i σ _ hlt p
 ·have e : i = n := by omega
  subst e
  exact .inl ⟨Nat.le_refl _, hd σ H p⟩
def Itv (K : PySem.W.Frag) (a : Addr) (n : Nat) : It :=
 ⟨fun i H => i < n ∧ ∃ (xs : List V) (x : V), SqL K H a xs ∧ xs[n - 1 - i]? = some x, fun i H x H' => H' = H ∧ ∀ xs, SqL K H a xs → xs[n - 1 - i]? = some x, fun i _ => n ≤ i⟩
theorem turn_rev {P : Program} {w : World} {K : PySem.W.Frag} {tg : Expr} (a it : Addr) (n : Nat) : Turn P w K tg (Itv K a n) [it] it (fun i h => i ≤ n ∧ h.IsRevIter it a ((n : Int) - 1 - (i : Nat))) where
 mem := by simp
 obj := fun i h st b hb => by
  have e : b = it := by simpa using hb
  subst e
  obtain ⟨_, o, e, c, d⟩ := st
  exact ⟨o, e, fun v z => by rw [d] at z; cases z⟩
 keep := fun i h h' st k => ⟨st.1, st.2.at fun o e => k it (by simp) o e⟩
 item := by
  intro X hP hw hK hc i pins s σ H E I hf st hg
  subst hP hw hK
  obtain ⟨hin, xs, x, hq, hx⟩ := hg
  obtain ⟨its, rv, p, hz⟩ := I.list hq
  obtain ⟨u, hu, ru⟩ := rv.get hx
  obtain ⟨f0, f1, f2, f3, f4, f5⟩ := hf it (by simp)
  obtain ⟨_, hit⟩ := st
  have e1 : (n : Int) - 1 - ((i : Nat) : Int) = ((n - 1 - i : Nat) : Int) := by omega
  rw [e1] at hit
  refine wpAny_pyNext_rev_item hit p.isList (x := u) (by simpa using hu) fun h' st' sb => ?_
  have e2 : ((n - 1 - i : Nat) : Int) - 1 = (n : Int) - 1 - ((i + 1 : Nat) : Int) := by omega
  rw [e2] at st'
  have I1 : Inv X pins σ H { s with heap := h' } := I.turned (t' := s.toks) (fun b o hb e => (sb.2 b hb).trans e) f0 f1 f3 f4 f5
  obtain ⟨o, e, c, d⟩ := id st'
  exact ⟨u, rfl, go_of (s := { s with heap := h' }) e c d (by decide) ⟨x, H, I1, ru, ⟨rfl, fun ys hy => by rw [I.list_inj hy hq]; exact hx⟩, ⟨hin, st'⟩, fun b hb => (hf b hb).1⟩⟩
 done := by
  intro X hP hw hK hc i pins s σ H E I hf st hg
  subst hP hw hK
  obtain ⟨f0, f1, f2, f3, f4, f5⟩ := hf it (by simp)
  obtain ⟨hin, hit⟩ := st
  have hge : n ≤ i := hg
  have e1 : (n : Int) - 1 - ((i : Nat) : Int) = -1 := by omega
  rw [e1] at hit
  exact wpAny_pyNext_rev_end (I.ok.hd hc) hit fun h' eb => ⟨rfl, I.turned (t' := s.toks) (fun b o hb e => eb b o hb e) f0 f1 f3 f4 f5⟩
 self := fun A i s Q E st h => wpAny_pyIter_revIter st.2 h
def iRev (K : PySem.W.Frag) (ta : TA) : TI := fun σ H R => ta σ H fun vs H1 => ∃ (a : Addr) (xs : List V), vs = [.ref a] ∧ SqL K H1 a xs ∧ R (Itv K a xs.length) H1
section
variable {X : Cx} {tg : Expr}
theorem pi_reversed {e : Expr} {ta : TA} {p pos : Pos} (hg : Gl X "reversed") (hm : X.mg "reversed" = none) (ha : PA X [e] ta) (hs : starEach [e] X.env = [(false, eval e X.env)] := by rfl) : PI X tg (.Call (.Name "reversed" p) [e] [] pos) (iRev X.K ta) := by
 intro pins s σ H R I h
 refine Call_ (ld_blt I hg hm boot_reversed5 (PyProof.Rows.callWith_type1 (thn (ha pos pins s σ H _ I h) fun us s1 ⟨vs, H1, I1, r1, q1⟩ => ?_) hs rfl))
 obtain ⟨a, xs, e, hq, q⟩ := q1
 subst e
 cases r1 with
 | cons r rr =>
  cases rr
  cases r
  obtain ⟨its, rv, p', hz⟩ := I1.list hq
  have hl := rv.length
  have e1 : ((its.toArray.size : Nat) : Int) - 1 = (xs.length : Int) - 1 - ((0 : Nat) : Int) := by simp only [List.size_toArray]; omega
  refine call_reversed_list p'.isList (wpAny_pyIter_revIter (l := a) (i := ((its.toArray.size : Nat) : Int) - 1) ⟨_, Heap.get?_push_size _ rfl, rfl, rfl⟩ ?_)
  refine pi_one (tk := s1.toks) I1 _ (turn_rev a _ xs.length) ⟨Nat.zero_le _, ?_⟩ q
  rw [← e1]
  exact ⟨_, Heap.get?_push_size _ rfl, rfl, rfl⟩
end
def Its (x : Str) : It := ⟨fun i _ => i < x.cps.size, fun i H v H' => H' = H ∧ ∃ c, x.cps[i]? = some c ∧ v = .str ⟨#[c]⟩, fun i _ => x.cps.size ≤ i⟩
theorem turn_str {P : Program} {w : World} {K : PySem.W.Frag} {tg : Expr} (it : Addr) (x : Str) (t : Tok) (ty : String) (hty : ty = "str_ascii_iterator" ∨ ty = "str_iterator") :
  Turn P w K tg (Its x) [it] it (fun i h => h.IsStrIter it ty x t i) where
 mem := by simp
 obj := fun i h st b hb => by
  have e : b = it := by simpa using hb
  subst e
  obtain ⟨o, e, c, d⟩ := st
  exact ⟨o, e, fun v z => by rw [d] at z; cases z⟩
 keep := fun i h h' st k => let ⟨o, ho, r⟩ := st; ⟨o, k it (by simp) o ho, r⟩
 item := by
  intro X hP hw hK hc i pins s σ H E I hf st hg
  subst hP hw hK
  obtain ⟨f0, f1, f2, f3, f4, f5⟩ := hf it (by simp)
  have W : Walks X.prog X.w X.A it [it] [it] x.cps.size (SignAt x) (fun i h => h.IsStrIter it ty x t i) := by
   rcases hty with e | e
   ·rw [e]; exact Walks.strAscii (I.ok.hd hc) it x t
   ·rw [e]; exact Walks.strWide (I.ok.hd hc) it x t
  have hno : ["enumerate", "zip", "dict_itemiterator", "dict_reverseitemiterator", "odict_iterator", "itertools.zip_longest", "itertools.pairwise"].contains ty = false := by
   rcases hty with e | e
   ·rw [e]; decide
   ·rw [e]; decide
  refine W.item i s _ _ hg st fun v h' tk hv st' kk => ?_
  obtain ⟨c, u, hcx, rfl⟩ := hv
  have I1 : Inv X pins σ H { s with heap := h', toks := tk } := I.turned (fun b o hb e => kk b o (by simpa using hb) e) f0 f1 f3 f4 f5
  obtain ⟨oi, e, cc, dd⟩ := id st'
  exact ⟨_, rfl, go_of (s := { s with heap := h', toks := tk }) e cc dd hno ⟨.str ⟨#[c]⟩, H, I1, ⟨u, rfl⟩, ⟨rfl, c, hcx, rfl⟩, st', fun b hb => (hf b hb).1⟩⟩
 done := by
  intro X hP hw hK hc i pins s σ H E I hf st hg
  subst hP hw hK
  obtain ⟨f0, f1, f2, f3, f4, f5⟩ := hf it (by simp)
  have hx : x.cps[i]? = none := Array.getElem?_eq_none hg
  rcases hty with e | e
  ·rw [e] at st
   exact wpAny_pyNext_ascii_end (I.ok.hd hc) st hx fun h' eb => ⟨rfl, I.turned (t' := s.toks) (fun b o hb e => eb b o hb e) f0 f1 f3 f4 f5⟩
  ·rw [e] at st
   exact wpAny_pyNext_wide_end (I.ok.hd hc) st hx fun h' eb => ⟨rfl, I.turned (t' := s.toks) (fun b o hb e => eb b o hb e) f0 f1 f3 f4 f5⟩
 self := fun A i s Q E st h => by
  rcases hty with e | e
  ·rw [e] at st; exact wpAny_pyIter_striter_ascii st h
  ·rw [e] at st; exact wpAny_pyIter_striter_wide st h
def iStr (te : TE) : TI := fun σ H R => te σ H fun v H1 => ∃ x, v = .str x ∧ R (Its x) H1
theorem pi_str {X : Cx} {tg e : Expr} {te : TE} (he : PE X e te) : PI X tg e (iStr te) := by
 intro pins s σ H R I h
 refine thn (he pins s σ H _ I h) fun v s1 ⟨y, H1, I1, r1, x, ex, q⟩ => ?_
 subst ex
 obtain ⟨t, rfl⟩ := r1
 cases ha : x.cps.all (· < 128)
 ·exact wpAny_pyIter_wide ha (pi_one (tk := s1.toks) I1 _ (turn_str _ x t "str_iterator" (.inr rfl)) ⟨_, Heap.get?_push_size _ rfl, rfl, rfl⟩ q)
 ·exact wpAny_pyIter_ascii ha (pi_one (tk := s1.toks) I1 _ (turn_str _ x t "str_ascii_iterator" (.inl rfl)) ⟨_, Heap.get?_push_size _ rfl, rfl, rfl⟩ q)
section
variable {prog : Program} {w : World} {A : Around} {E : Value → Shared → Prop} {s : Shared}
end
section
variable {X : Cx} {pins : List (Addr × Obj)} {σ : St} {H : Hp} {s : Shared} {d : Addr} {o : Obj}
end
section
variable {P : Program} {w : World} {K : PySem.W.Frag} {tg : Expr} {d : Addr} {o : Obj} {es : Array DictEntry} {ep : Nat}
end
section
variable {X : Cx} {tg e : Expr} {td : TE} {apos cpos : Pos}
end
theorem boot_zip5 : bootBuiltins "zip" = some (.type "zip") := by decide +kernel
def Itz (K : PySem.W.Frag) (a b : Addr) : It :=
 ⟨fun i H => ∃ (xs ys : List V) (x y : V), SqL K H a xs ∧ SqL K H b ys ∧ xs[i]? = some x ∧ ys[i]? = some y,
  fun i H v H' => ∃ T x y, v = .ref T ∧ H T = none ∧ H' = upd H T (.tup [x, y]) ∧ (∀ xs, SqL K H a xs → xs[i]? = some x) ∧ ∀ ys, SqL K H b ys → ys[i]? = some y,
  fun i H => ∃ xs ys : List V, SqL K H a xs ∧ SqL K H b ys ∧ (xs.length ≤ i ∨ ys.length ≤ i)⟩
theorem turn_zip {P : Program} {w : World} {K : PySem.W.Frag} {elts : List Expr} {kk : Nat} {tpos : Pos} {a b z TI TO i1 i2 : Addr} (D : ZipApart z TI TO i1 i2 a b) :
  Turn P w K (.Tuple elts kk tpos) (Itz K a b) [z, TI, TO, i1, i2] z (fun i h => IsZip h z TI TO .none ∧ IsPair h TI (.ref i1) (.ref i2) ∧ (∃ x y, IsPair h TO x y) ∧ h.IsListIter i1 a i ∧ h.IsListIter i2 b i) where
 mem := by simp
 obj := fun i h st c hc => by
  obtain ⟨hz, hTI, ⟨x, y, hTO⟩, ⟨o1, e1, _, d1⟩, ⟨o2, e2, _, d2⟩⟩ := st
  have e' : c = z ∨ c = TI ∨ c = TO ∨ c = i1 ∨ c = i2 := by simpa using hc
  rcases e' with q | q | q | q | q
  ·rw [q]; exact ⟨_, hz, fun v q => nomatch q⟩
  ·rw [q]; exact ⟨_, hTI, fun v q => nomatch q⟩
  ·rw [q]; exact ⟨_, hTO, fun v q => nomatch q⟩
  ·rw [q]; exact ⟨o1, e1, fun v q => by rw [d1] at q; cases q⟩
  ·rw [q]; exact ⟨o2, e2, fun v q => by rw [d2] at q; cases q⟩
 keep := fun i h h' st k => by
  obtain ⟨hz, hTI, ⟨x, y, hTO⟩, h1, h2⟩ := st
  exact ⟨k z (by simp) _ hz, k TI (by simp) _ hTI, ⟨x, y, k TO (by simp) _ hTO⟩, h1.at fun o q => k i1 (by simp) o q, h2.at fun o q => k i2 (by simp) o q⟩
 item := by
  intro X hP hw hK hc i pins s σ H E I hf st hg
  subst hP hw hK
  obtain ⟨hz, hTI, ⟨x0, y0, hTO⟩, h1, h2⟩ := st
  obtain ⟨xs, ys, x, y, hqx, hqy, hx, hy⟩ := hg
  obtain ⟨its, rv, p, _⟩ := I.list hqx
  obtain ⟨its2, rv2, p2, _⟩ := I.list hqy
  obtain ⟨u, hu, ru⟩ := rv.get hx
  obtain ⟨u2, hu2, ru2⟩ := rv2.get hy
  have hzl : z < s.heap.objs.size := Heap.lt_size hz
  refine wpAny_pyNext_zip_item D hz hTI hTO h1 h2 p.isList p2.isList (x := u) (y := u2) (by simpa using hu) (by simpa using hu2) fun h' z' TO' h1' h2' hT hsz hk => ?_
  refine ⟨_, rfl, wpAny_letOwnedTupleGo_zip (s := { s with heap := h' }) z' fun h'' z'' sb => ?_⟩
  have hT2 : h''.get? s.heap.objs.size = some { cls := .type "tuple", data := .seq #[u, u2] } := (sb.2 _ (Nat.ne_of_gt hzl)).trans hT
  have new : ObjOk X.prog X.w (upd H s.heap.objs.size (.tup [x, y])) h'' s.heap.objs.size (.tup [x, y]) :=
   ⟨by show 2 ≤ sizeLine; decide, [u, u2], .cons ru (.cons ru2 .nil), ⟨_, hT2, rfl, _, rfl⟩⟩
  have I1 : Inv X pins σ (upd H s.heap.objs.size (.tup [x, y])) { s with heap := h'' } :=
   I.turnedNew (t' := s.toks) (ch := [z, TI, TO, i1, i2]) (fun c o hb q => (sb.2 c (fun q' => hb (by simp [q']))).trans (hk c o (fun q' => hb (by simp [q'])) (fun q' => hb (by simp [q'])) (fun q' => hb (by simp [q'])) (fun q' => hb (by simp [q'])) q)) hf (Nat.le_refl _) new
  refine ⟨.ref s.heap.objs.size, _, I1, rfl, ⟨_, x, y, rfl, I.hok.fresh (Nat.le_refl _), rfl, fun l hl => by rw [I.list_inj hl hqx]; exact hx, fun l hl => by rw [I.list_inj hl hqy]; exact hy⟩, ⟨z'', ?_, ⟨u, u2, ?_⟩, ?_, ?_⟩, fun c hcm => ?_⟩
  ·exact (sb.2 _ D.TIz).trans (hk _ _ D.TIz D.TITO D.TIi1 D.TIi2 hTI)
  ·exact (sb.2 _ D.TOz).trans TO'
  ·exact h1'.at fun o q => (sb.2 _ D.i1z).trans q
  ·exact h2'.at fun o q => (sb.2 _ D.i2z).trans q
  ·have hlt : c < s.heap.objs.size := by
    have e' : c = z ∨ c = TI ∨ c = TO ∨ c = i1 ∨ c = i2 := by simpa using hcm
    rcases e' with q | q | q | q | q
    ·rw [q]; exact hzl
    ·rw [q]; exact Heap.lt_size hTI
    ·rw [q]; exact Heap.lt_size hTO
    ·rw [q]; obtain ⟨_, e1, _⟩ := h1; exact Heap.lt_size e1
    ·rw [q]; obtain ⟨_, e2, _⟩ := h2; exact Heap.lt_size e2
   rw [upd_ne (Nat.ne_of_lt hlt)]
   exact (hf c hcm).1
 done := by
  intro X hP hw hK hc i pins s σ H E I hf st hg
  subst hP hw hK
  obtain ⟨hz, hTI, ⟨x0, y0, hTO⟩, h1, h2⟩ := st
  obtain ⟨xs, ys, hqx, hqy, hend⟩ := hg
  obtain ⟨its, rv, p, _⟩ := I.list hqx
  obtain ⟨its2, rv2, p2, _⟩ := I.list hqy
  have l1 := rv.length
  have l2 := rv2.length
  have he : its.toArray[i]? = none ∨ its2.toArray[i]? = none := by
   rcases hend with q | q
   ·exact .inl (by simp; omega)
   ·exact .inr (by simp; omega)
  exact wpAny_pyNext_zip_end (I.ok.hd hc) D hz hTI hTO h1 h2 p.isList p2.isList he fun h' hk => ⟨rfl, I.turnedL (t' := s.toks) (ch := [z, TI, TO, i1, i2]) (fun c o hb q =>
   hk c o (fun q' => hb (by simp [q'])) (fun q' => hb (by simp [q'])) (fun q' => hb (by simp [q'])) (fun q' => hb (by simp [q'])) q) hf⟩
 self := fun A i s Q E st h => wpAny_pyIter_zip st.1 h
def iZip (K : PySem.W.Frag) (ta : TA) : TI := fun σ H R => ta σ H fun vs H1 => ∃ a b xs ys, vs = [.ref a, .ref b] ∧ SqL K H1 a xs ∧ SqL K H1 b ys ∧ R (Itz K a b) H1
theorem pi_zip {X : Cx} {e e2 : Expr} {ta : TA} {p pos tpos : Pos} {elts : List Expr} {kk : Nat} (hg : Gl X "zip") (hm : X.mg "zip" = none) (ha : PA X [e, e2] ta)
  (hs : starEach [e, e2] X.env = (false, eval e X.env) :: starEach [e2] X.env := by rfl) (hpl : (backTo pos (starEach [e2] X.env)).any (·.1) = false := by rfl) :
  PI X (.Tuple elts kk tpos) (.Call (.Name "zip" p) [e, e2] [] pos) (iZip X.K ta) := by
 intro pins s σ H R I h
 refine Call_ (ld_blt I hg hm boot_zip5 (PyProof.Rows.callWith_type1 (thn (ha pos pins s σ H _ I h) fun us s1 ⟨vs, H1, I1, r1, q1⟩ => ?_) hs hpl))
 obtain ⟨a, b, xs, ys, ex, hqx, hqy, q⟩ := q1
 subst ex
 cases r1 with
 | cons r rr =>
  cases rr with
  | cons r' rr =>
   cases rr
   cases r
   cases r'
   obtain ⟨its, rv, p1, _⟩ := I1.list hqx
   obtain ⟨its2, rv2, p2, _⟩ := I1.list hqy
   have la : a < s1.heap.objs.size := p1.lt
   have lb : b < s1.heap.objs.size := p2.lt
   refine call_zip_2 p1.isList p2.isList fun h' hz hTI hTO h1 h2 hsz hk => wpAny_pyIter_zip hz ?_
   have I2 : Inv X pins σ H1 { s1 with heap := h' } := I1.kept (t' := s1.toks) hk
   refine ⟨s1.heap.objs.size + 4, [s1.heap.objs.size + 4, s1.heap.objs.size + 2, s1.heap.objs.size + 3, s1.heap.objs.size, s1.heap.objs.size + 1], _, _, H1, rfl, I2, turn_zip (PySem.W.ktu_apart s1.heap.objs.size a b la lb), ⟨hz, hTI, ⟨_, _, hTO⟩, h1, h2⟩, fun c hcm => ?_, q⟩
   have e' : c = s1.heap.objs.size + 4 ∨ c = s1.heap.objs.size + 2 ∨ c = s1.heap.objs.size + 3 ∨ c = s1.heap.objs.size ∨ c = s1.heap.objs.size + 1 := by simpa using hcm
   have hle : s1.heap.objs.size ≤ c := by
    rcases e' with z | z | z | z | z
    ·rw [z]; exact Nat.le_add_right _ _
    ·rw [z]; exact Nat.le_add_right _ _
    ·rw [z]; exact Nat.le_add_right _ _
    ·rw [z]; exact Nat.le_refl _
    ·rw [z]; exact Nat.le_add_right _ _
   exact I1.fpOk hle (I1.hok.fresh hle)
end L2
section
namespace Bits
open PySem PyProof.Rows
theorem nat_xor_add_and (m : Nat) : ∀ n : Nat, (m ^^^ n) + 2 * (m &&& n) = m + n := by
 induction m using Nat.strongRecOn with
 | _ m ih =>
  intro n
  by_cases h0 : m = 0
  ·subst h0
   simp
  ·have ih' := ih (m / 2) (by omega) (n / 2)
   rw [← Nat.xor_div_two, ← Nat.and_div_two] at ih'
   have o1 := @Nat.xor_mod_two_eq_one m n
   have a1 := @Nat.and_mod_two_eq_one m n
   omega
theorem bitXor_pp {x y : Int} (hx : 0 ≤ x) (hy : 0 ≤ y) : Builtin.bitXor x y = ((x.toNat ^^^ y.toNat : Nat) : Int) := by
 have e := nat_xor_add_and x.toNat y.toNat
 rw [bitXor_and, bitAnd_pp hx hy]
 omega
theorem bitOr_pp {x y : Int} (hx : 0 ≤ x) (hy : 0 ≤ y) : Builtin.bitOr x y = ((x.toNat ||| y.toNat : Nat) : Int) := by
 have e := nat_or_add_and x.toNat y.toNat
 rw [bitOr_and, bitAnd_pp hx hy]
 omega
end Bits
end
section
namespace TL
open PySem PySem.Builtin PySem.Builtin.Str PySem.StrLaws
end TL
end
namespace L2
open PySem PySem.Spec PyProof.Rows
section
variable {X : Cx} {pins : List (Addr × Obj)} {σ : St} {H : Hp} {s : Shared} {Q : VK}
end
section
variable {X : Cx}
end
section
variable {X : Cx} {o e : Expr} {to te : TE}
end
end L2
namespace L2
open PySem PySem.Spec PyProof.Rows
section
variable {X : Cx}
end
end L2
namespace Att
open PySem PySem.W PySem.Calls PyProof.Rows
theorem ints_of_wellAll {P : Params} {h : Heap} : ∀ (ns : List Int) (vs : List Value), WellAll P h vs (ns.map WData.int) → IntsAre vs ns := by
 intro ns
 induction ns with
 | nil =>
  intro vs w
  rw [List.map_nil] at w
  cases w
  exact .nil
 | cons n ns ih =>
  intro vs w
  rw [List.map_cons] at w
  cases w with
  | cons a b =>
   cases a
   exact .cons _ _ (ih _ b)
section
variable {prog : Program} {w : World} {A : Around} {E : Value → Shared → Prop} {s : Shared} {K : Frag}
end
end Att
namespace L2
open PySem PySem.Spec PyProof.Rows
theorem vals_ints : ∀ {vs : List Value} {ns : List Int}, IntsAre vs ns → Vals (ns.map V.int) vs
 | _, _, .nil => .nil
 | _, _, .cons n t h => .cons ⟨t, rfl⟩ (vals_ints h)
def Only (H : Hp) : Prop := ∀ b, H b = none ∨ ∃ o xs, H b = some (.frz o (.lst xs))
end L2
namespace L2
open PySem PySem.Spec PyProof.Rows
abbrev KOf {K : PySem.W.Frag} {h : Heap} (_ : K.In h) : PySem.W.Frag := K
end L2
namespace L2
open PySem PySem.Spec PyProof.Rows
def inClass (s : Stmt) (j : Nat) : Stmt := match s with
 | .ClassDef _ _ _ body _ _ _ _ _ _ _ => body.getD j (.Pass ⟨0, 0, 0, 0⟩)
 | _ => .Pass ⟨0, 0, 0, 0⟩
def defArgs (s : Stmt) : Arguments := match s with
 | .FunctionDef _ a _ _ _ _ _ _ _ _ => a
 | _ => { posonlyargs := [], args := [], vararg := none, kwonlyargs := [], kw_defaults := [], kwarg := none, defaults := [] }
def defBody (s : Stmt) : List Stmt := match s with
 | .FunctionDef _ _ b _ _ _ _ _ _ _ => b
 | _ => []
def defScope (s : Stmt) : Scope := match s with
 | .FunctionDef _ _ _ _ _ _ sc _ _ _ => sc
 | _ => { kind := .function, names := [], isGenerator := false, isCoroutine := false }
abbrev CX0 : CXT := fun _ _ _ _ _ _ => False
abbrev E0 : XK := fun _ _ _ => False
theorem pass0 {X : Cx} : Passes CX0 X E0 := fun _ _ _ _ _ _ _ h => h.elim
structure Fun (K : PySem.W.Frag) (x qual : Str) (st : Stmt) (f : Addr) (fd : FuncData) : Prop where
 ex : ∃ (oc : Value) (od : Option Addr) (kV doc pm : Value) (an : Option Addr) (cdv ct : Value) (osl : Array (Option Value)),
  fd = PySem.W.fnOf x qual (defArgs st) (defBody st) (defScope st) .none kV doc pm an cdv ct ∧ K.lookup f = some ⟨oc, od, .func fd, osl⟩ ∧ PySem.W.codeIn K cdv qual = true
 kp : PySem.W.keepIn K (.ref f) = true
section
variable {P : Program} {w : World} {K : PySem.W.Frag} {mg : Str → Option Value} {base : Heap}
theorem Fun.ok {x qual : Str} {st : Stmt} {f : Addr} {fd : FuncData} {N ps : List Str} {k : Nat} {sp : Sp} (F : Fun K x qual st f fd) (S : FnScope N ps (defScope st)) (len : ∀ vs H Q E, sp vs H Q E → vs.length = ps.length)
  (hbody : ∀ (cdv : Value) (A : Around) (outer : List Env) (s : Shared) (H : Hp) (vs : List V) (Q : VK) (E : XK), Room k (A.deeper (envOfC qual (defScope st) s.heap.objs.size f cdv)) → sp vs H Q E →
   ∃ t, PSs (cxOf CX0 P w K mg base N qual (defScope st) f cdv A outer s H E).nox (defBody st) t ∧ t { nx := fun _ H' => Q .non H', rt := Q } (start N vs) H) : FnOk P w K mg base CX0 (k + 1) f fd ps sp := by
 obtain ⟨oc, od, kV, doc, pm, an, cdv, ct, osl, rfl, lk, hcd⟩ := F.ex
 refine fn_of lk hcd S len fun A outer s H vs Q E hr hsp => ?_
 obtain ⟨t, h, q⟩ := hbody cdv A outer s H vs Q E hr hsp
 exact ⟨t, h.nox, q⟩
theorem fun_mk {x qual : Str} {st : Stmt} {f : Addr} {oc : Value} {od an : Option Addr} {osl : Array (Option Value)} {kV doc pm cdv ct : Value} (l : K.lookup f = some ⟨oc, od, .func (PySem.W.fnOf x qual (defArgs st) (defBody st) (defScope st) .none kV doc pm an cdv ct), osl⟩)
  (c : PySem.W.codeIn K cdv qual = true) (k : PySem.W.keepIn K (.ref f) = true) : Fun K x qual st f (PySem.W.fnOf x qual (defArgs st) (defBody st) (defScope st) .none kV doc pm an cdv ct) := ⟨⟨oc, od, kV, doc, pm, an, cdv, ct, osl, rfl, l, c⟩, k⟩
end
section
variable {X : Cx}
theorem pv (i : Nat) {x : Str} {pos : Pos} (hN : X.N[i]? = some x := by rfl) (hv : Vis X.env.scope x := by first | exact Or.inl rfl | exact Or.inr (Or.inl rfl) | exact Or.inr (Or.inr rfl)) (hd : (x == ("__debug__" : Str)) = false := by decide)
  (hcd : (x == ("__classdict__" : Str)) = false := by decide) : PE X (.Name x pos) (tVar i) := pe_var hN hv hd hcd
end
theorem ite2 {c A B : Prop} [Decidable c] (h1 : c → A) (h2 : ¬ c → B) : if c then A else B := by
 by_cases h : c
 ·rw [if_pos h]
  exact h1 h
 ·rw [if_neg h]
  exact h2 h
def Same (H H' : Hp) : Prop := ∀ b o, H b = some o → H' b = some o
theorem Same.refl (H : Hp) : Same H H := fun _ _ h => h
theorem Same.trans {H H1 H2 : Hp} (a : Same H H1) (b : Same H1 H2) : Same H H2 := fun c o h => b c o (a c o h)
theorem Same.free {H H' : Hp} (e : Same H H') {l : Addr} (h : H' l = Option.none) : H l = Option.none := by
 cases q : H l with
 | none => rfl
 | some o =>
  rw [e l o q] at h
  cases h
theorem Same.seq {K : PySem.W.Frag} {H H' : Hp} {a : Addr} {xs : List V} (e : Same H H') (h : SqL K H a xs) : SqL K H' a xs := by
 rcases h with (h | ⟨o, h⟩) | h
 ·exact .inl (.inl (e _ _ h))
 ·exact .inl (.inr ⟨o, e _ _ h⟩)
 ·exact .inr h
section
variable {κ : Type} [DecidableEq κ]
end
end L2
namespace L2
open PySem
def fld2 (o : Obj) : Option Value := match o.data with
 | .fields vs => vs[2]?
 | _ => none
def DK (h h' : Heap) : Prop := ∀ b o, h.get? b = some o → ∃ o', h'.get? b = some o' ∧ o'.dict = o.dict ∧ fld2 o' = fld2 o
theorem DK.refl (h : Heap) : DK h h := fun _ o e => ⟨o, e, rfl, rfl⟩
theorem DK.trans {h1 h2 h3 : Heap} (a : DK h1 h2) (b : DK h2 h3) : DK h1 h3 := fun c o e => by
 obtain ⟨o1, e1, d1, f1⟩ := a c o e
 obtain ⟨o2, e2, d2, f2⟩ := b c o1 e1
 exact ⟨o2, e2, d2.trans d1, f2.trans f1⟩
theorem DK.push (h : Heap) (o : Obj) : DK h (h.push o) := fun b ob e => ⟨ob, Heap.get?_push_of_some _ e, rfl, rfl⟩
theorem DK.upd {h : Heap} {a : Addr} {f : Obj → Obj} (hf : ∀ o, h.get? a = some o → (f o).dict = o.dict ∧ (f o).isFreed = false ∧ fld2 (f o) = fld2 o) : DK h (h.update a f) := fun b o e => by
 by_cases q : b = a
 ·subst q
  exact ⟨f o, Heap.get?_update_self _ e (hf o e).2.1, (hf o e).1, (hf o e).2.2⟩
 ·exact ⟨o, by rw [Heap.get?_update_other _ _ (Ne.symm q)]; exact e, rfl, rfl⟩
theorem fld2_map {o : Obj} {vs : Array Value} (hd : o.data = .fields vs) {i : Nat} (hi : i ≠ 2) (x : Value) : fld2 (Obj.mapFields (·.setIfInBounds i x) o) = fld2 o := by
 have e := Obj.data_mapFields hd (·.setIfInBounds i x)
 unfold fld2
 rw [e, hd]
 exact Array.getElem?_setIfInBounds_ne hi
theorem dict_mapFields (f : Array Value → Array Value) (o : Obj) : (Obj.mapFields f o).dict = o.dict := by
 obtain ⟨c, d, dt, sl⟩ := o
 cases dt <;> rfl
theorem freed_slots {h : Heap} {a : Addr} {o : Obj} (e : h.get? a = some o) (sl : Array (Option Value)) : ({ o with slots := sl } : Obj).isFreed = false := by
 have hx := (Heap.get?_some_iff.mp e).2
 obtain ⟨c, d, dt, s0⟩ := o
 cases dt <;> first | rfl | (simp [Obj.isFreed] at hx)
structure KDk {α : Type} (t : Sem α) : Prop where
 out : ∀ (M : Model) (G : Ctx) (Q : α → Pos → Shared → Prop) (E : Value → Pos → Shared → Prop) (p : Pos) (s : Shared), Sem.wp M G t Q E p s → Sem.wp M G t (fun a p' s' => Q a p' s' ∧ DK s.heap s'.heap) E p s
namespace KDk
variable {α β : Type}
theorem pure (a : α) : KDk (Pure.pure a : Sem α) := ⟨fun M G Q E p s h => by
 rw [Sem.wp_pure'] at h ⊢
 exact ⟨h, DK.refl _⟩⟩
theorem unsup (w : String) : KDk (PySem.unsupported w : Sem α) := ⟨fun _ _ _ _ _ _ h => h.elim⟩
theorem bind {m : Sem α} {f : α → Sem β} (hm : KDk m) (hf : ∀ a, KDk (f a)) : KDk (m >>= f) := ⟨fun M G Q E p s h => by
 rw [Sem.wp_bind'] at h ⊢
 refine Sem.wp_mono M G m (fun a p1 s1 ⟨h1, d1⟩ => ?_) (fun _ _ _ x => x) p s (hm.out M G _ E p s h)
 exact Sem.wp_mono M G (f a) (fun b p2 s2 ⟨h2, d2⟩ => ⟨h2, d1.trans d2⟩) (fun _ _ _ x => x) p1 s1 ((hf a).out M G Q E p1 s1 h1)⟩
theorem load (a : Addr) : KDk (PySem.load a) := ⟨fun M G Q E p s h => by
 unfold PySem.load at h ⊢
 rw [Sem.wp_load] at h ⊢
 obtain ⟨o, ho, q⟩ := h
 refine ⟨o, ho, ?_⟩
 rw [Sem.wp_pure] at q ⊢
 exact ⟨q, DK.refl _⟩⟩
theorem stack : KDk PySem.stack := ⟨fun M G Q E p s h => by
 unfold PySem.stack at h ⊢
 rw [Sem.wp_stack] at h ⊢
 rw [Sem.wp_pure] at h ⊢
 exact ⟨h, DK.refl _⟩⟩
theorem field (v : Value) (i : Nat) : KDk (PySem.field v i) := ⟨fun M G Q E p s h => by
 rw [wp_field_iff] at h ⊢
 obtain ⟨a, o, vs, x, e, ho, hd, hx, q⟩ := h
 exact ⟨a, o, vs, x, e, ho, hd, hx, q, DK.refl _⟩⟩
theorem setField (v : Value) (i : Nat) (x : Value) (hi2 : i ≠ 2 := by decide) : KDk (PySem.setField v i x) := ⟨fun M G Q E p s h => by
 rw [wp_setField_iff] at h ⊢
 obtain ⟨a, o, vs, e, ho, hd, hi, q⟩ := h
 refine ⟨a, o, vs, e, ho, hd, hi, q, DK.upd fun o' e' => ?_⟩
 rw [ho] at e'
 cases e'
 exact ⟨dict_mapFields _ _, Obj.isFreed_of_fields (Obj.data_mapFields hd _), fld2_map hd hi2 x⟩⟩
theorem updSlots (a : Addr) (g : Obj → Array (Option Value)) : KDk (PySem.update a fun o => { o with slots := g o }) := ⟨fun M G Q E p s h => by
 unfold PySem.update at h ⊢
 rw [Sem.wp_update] at h ⊢
 obtain ⟨h1, h2⟩ := h
 rw [Sem.wp_pure] at h2 ⊢
 exact ⟨h1, h2, DK.upd fun o e => ⟨rfl, freed_slots e _, rfl⟩⟩⟩
theorem newFields (n : String) (l : List Value) : KDk (PySem.newFields n l) := ⟨fun M G Q E p s h => by
 unfold PySem.newFields newObj newObjAsIs at h ⊢
 simp only [Sem.wp_bind', alloc, Sem.wp_alloc, Sem.wp_pure, Sem.wp_pure'] at h ⊢
 by_cases hz : l.toArray.size > sizeLine + 2
 ·simp only [hz, if_true] at h
  exact h.elim
 ·simp only [hz, if_false] at h ⊢
  simp only [Sem.wp_bind', Sem.wp_alloc, Sem.wp_pure, Sem.wp_pure'] at h ⊢
  exact ⟨h, DK.push _ _⟩⟩
end KDk
theorem kd_behind (env : Env) (outer : List Env) : KDk (behindIsImport env outer) := by
 unfold behindIsImport
 split
 ·exact .pure _
 ·split
  ·exact .pure _
  ·exact .bind (.field _ _) fun _ => .pure _
theorem kd_under : KDk underTheClaimsCaller := by
 unfold underTheClaimsCaller
 exact .bind .stack fun _ => .pure _
theorem kd_kept (env : Env) (i : Bool) (l : List Env) : KDk (keptBack env i l) := by
 cases l with
 | nil =>
  simp only [keptBack]
  split
  ·exact .pure _
  ·exact .bind kd_under fun _ => .pure _
 | cons c r =>
  simp only [keptBack]
  exact .pure _
theorem kd_ready : ∀ l : List Env, KDk (readyFrames l)
 | [] => .pure _
 | env :: outer => by
  unfold readyFrames
  split
  ·refine .bind (.load _) fun o => ?_
   split
   ·exact .pure _
   ·exact .bind (kd_behind _ _) fun i => .bind (kd_kept _ _ _) fun b => .bind (.updSlots _ _) fun _ => kd_ready outer
  ·exact .unsup _
theorem kd_frameObject (l : List Env) : KDk (frameObject l) := by
 cases l with
 | nil => exact .pure _
 | cons env outer =>
  unfold frameObject
  exact .bind (kd_ready _) fun _ => .pure _
theorem kd_frameOf (env : Env) : KDk (frameOf env) := by
 unfold frameOf frameEnvs
 refine .bind (.bind .stack fun _ => .pure _) fun l => .bind (kd_frameObject _) fun r => ?_
 split
 ·exact .pure _
 ·exact .unsup _
theorem kd_place (f : Addr) (b : Bool) : KDk (entryPlaceOf f b) := by
 unfold entryPlaceOf
 refine .bind .stack fun l => ?_
 split
 ·exact .pure _
 ·exact .pure _
theorem kd_entry (a b c d e : Value) (l : List Value) : KDk (EntryCells.newEntry a b c d e l) := by
 unfold EntryCells.newEntry
 exact .newFields _ _
theorem kd_tail (e head : Value) (env : Env) (f : Addr) (b : Bool) : KDk (do setField e 1 (← EntryCells.newEntry head (← frameOf env) .none (rawInt f) .none (← entryPlaceOf f b))) :=
 .bind (kd_frameOf _) fun _ => .bind (kd_place _ _) fun _ => .bind (kd_entry _ _ _ _ _ _) fun _ => .setField _ _ _
theorem kd_note (e : Value) (env : Env) : KDk (noteFrame e env) := by
 unfold noteFrame
 split
 ·refine .bind (.field _ _) fun head => ?_
  split
  ·refine .bind (.field _ _) fun m => ?_
   split
   ·exact .pure _
   ·exact .bind (.setField _ _ _) fun _ => kd_tail _ _ _ _ _
  ·exact kd_tail _ _ _ _ _
 ·exact .unsup _
theorem kd_flight (e : Value) (f : Option Addr) : KDk (setFlight e f) := by
 unfold setFlight
 refine .bind (.field _ _) fun tb => ?_
 split
 ·exact .setField _ _ _
 ·exact .pure _
theorem kd_leaving (env : Env) (e : Value) : KDk (leaving env e) := by
 unfold leaving
 exact .bind (kd_note _ _) fun _ => kd_flight _ _
theorem wpAny_dk {α : Type} {M : Model} {A : Around} {t : Sem α} {Q : α → Shared → Prop} {E : Value → Shared → Prop} {s : Shared} (k : KDk t) (h : wpAny M A t Q E s) : wpAny M A t (fun a s' => Q a s' ∧ DK s.heap s'.heap) E s :=
 fun G p hG => k.out M G _ _ p s (h G p hG)
end L2
namespace L2
open PySem PySem.Spec PyProof.Rows
theorem ObjOk.there {P : Program} {w : World} {H : Hp} {h : Heap} {a : Addr} {o : HO} (x : ObjOk P w H h a o) : ∃ u, h.get? a = some u := by
 cases o with
 | lst xs => obtain ⟨_, _, _, _, e⟩ := x; exact ⟨_, e⟩
 | tup xs => obtain ⟨_, _, _, _, e, _⟩ := x; exact ⟨_, e⟩
 | dK kvs => obtain ⟨_, _, _, _, o, _, _, e, _⟩ := x; exact ⟨_, e⟩
 | dT kvs => obtain ⟨_, _, _, _, o, _, _, e, _⟩ := x; exact ⟨_, e⟩
 | set S n => obtain ⟨o, _, _, _, e, _⟩ := x; exact ⟨_, e⟩
 | ins C dx fs => obtain ⟨_, _, _, e, _⟩ := x; exact ⟨_, e⟩
 | own y => obtain ⟨_, e⟩ := x; exact ⟨_, e⟩
 | xd fs => obtain ⟨_, ⟨_, _, _, e, _⟩, _⟩ := x; exact ⟨_, e⟩
 | rng lo hi => obtain ⟨_, _, _, e⟩ := x; exact ⟨_, e⟩
 | frz ob u => obtain ⟨e, _⟩ := x; exact ⟨_, e⟩
 | tbl ps => exact ⟨_, (show h.get? a = some _ from x)⟩
 | met f y => exact ⟨_, (show h.get? a = some _ from x)⟩
 | ext φ => obtain ⟨_, ⟨_, e⟩, _⟩ := x; exact ⟨_, e⟩
structure Fly (P : Program) (w : World) (outer : List Env) (H : Hp) (s : Shared) (a C : Addr) (d : Option Addr) (H' : Hp) (s' : Shared) (B : Heap) (a0 : Value) : Prop where
 os : s'.os = s.os
 bare : AllBare s'.gens
 un : Un (frs outer) [] H H' s.heap s'.heap
 hok : HOk P w H' s'.heap
 no : H' a = none
 fl : Heap.FlyingW B outer a (.ref C) a0 s'.heap
 dict : ∃ oe, s'.heap.get? a = some oe ∧ oe.dict = d ∧ (d = none → fld2 oe = some .none)
 k1 : ∀ b o, s.heap.get? b = some o → H b = none → b ∉ frs outer → B.get? b = some o
 k2 : ∀ b o, H' b = some o → ∃ ob, B.get? b = some ob ∧ s'.heap.get? b = some ob
 k3 : ∀ b o, s.heap.get? b = some o → b ∉ frs outer → ∃ ob, B.get? b = some ob
def CXF (P : Program) (w : World) : CXT := fun outer H s E e s' => ∃ a C d H' B a0, e = .ref a ∧ Fly P w outer H s a C d H' s' B a0 ∧ E (.ref C) d H'
section
variable {X : Cx} {pins : List (Addr × Obj)} {σ : St} {H : Hp} {s : Shared} {a C : Addr} {d : Option Addr} {B h2 : Heap} {a0 : Value}
structure Cx.Body (X : Cx) : Prop where
 ex : X.ex = []
 st : X.stack = X.env :: X.outer
 fr : X.env.frame = some X.env.locals
theorem Cx.Body.frs_stack (b : X.Body) : frs X.stack = X.env.locals :: X.fs := by
 rw [b.st]
 unfold frs
 rw [List.filterMap_cons, b.fr]
 rfl
theorem fly_mk (bd : X.Body) (I : Inv X pins σ H s) (hn : H a = none)
  (c1 : ∀ b o, X.s_0.heap.get? b = some o → X.H_0 b = none → b ∉ X.fs → B.get? b = some o)
  (c2 : ∀ b o, H b = some o → ∃ ob, B.get? b = some ob ∧ s.heap.get? b = some ob)
  (c3 : ∀ b o, X.s_0.heap.get? b = some o → b ∉ X.fs → ∃ ob, B.get? b = some ob)
  (fl : Heap.FlyingW B X.outer a (.ref C) a0 h2) (up : s.heap.UpToSlots h2) (hd : ∃ oe, h2.get? a = some oe ∧ oe.dict = d ∧ (d = none → fld2 oe = some .none)) :
  Fly X.prog X.w X.outer X.H_0 X.s_0 a C d H { s with heap := h2 } B a0 := by
 have st : B.StaysIn h2 := fl.1
 have fr : ∀ b ∈ X.fs, ∃ o, s.heap.get? b = some o ∧ ∀ vs, o.data ≠ .fields vs := fun b hb => (I.funs.mem hb).2
 have nx : ∀ b : Addr, b ∉ X.ex := fun b hb => by rw [bd.ex] at hb; cases hb
 refine ⟨I.os, I.bare, ⟨fun b o e n hb _ => st b o (c1 b o e n hb), fun b o e n hb _ => ?_, fun b o e n _ => I.base.free b o e n (nx b), fun b o e _ => ?_, I.base.tups, I.base.frzs, I.base.tbls⟩, fun b o e => ?_, hn, fl, hd, c1, fun b o e => ?_, c3⟩
 ·obtain ⟨sl, e1⟩ := I.base.slot b o e n hb (nx b)
  obtain ⟨o1, e2, nf⟩ := fr b hb
  rw [e1] at e2
  cases e2
  obtain ⟨sl2, e3⟩ := up b _ e1 nf
  exact ⟨sl2, e3⟩
 ·by_cases hb : b ∈ X.fs
  ·obtain ⟨o1, e2, nf⟩ := fr b hb
   obtain ⟨sl, e3⟩ := up b _ e2 nf
   exact ⟨_, e3⟩
  ·obtain ⟨ob, q⟩ := c3 b o e hb
   exact ⟨ob, st b ob q⟩
 ·refine (I.hok b o e).stay (fun c v hc q => ?_) (fun _ q => q) fun _ _ q => q
  have : ∃ u, H c = some u := by
   rcases hc with z | z
   ·exact ⟨o, by rw [z]; exact e⟩
   ·exact ⟨_, z⟩
  obtain ⟨u, hu⟩ := this
  obtain ⟨ob, e1, e2⟩ := c2 c u hu
  rw [q] at e2
  cases e2
  exact st _ _ e1
 ·obtain ⟨ob, e1, _⟩ := c2 b o e
  exact ⟨ob, e1, st b ob e1⟩
theorem Cx.Body.nofr (bd : X.Body) (I : Inv X pins σ H s) {b : Addr} {o : Obj} (e : X.s_0.heap.get? b = some o) (hb : b ∉ X.fs) : b ∉ frs X.stack := by
 rw [bd.frs_stack]
 intro hm
 rcases List.mem_cons.mp hm with z | z
 ·exact absurd (Nat.lt_of_lt_of_le (Heap.lt_size e) I.ok.above) (by rw [z]; exact Nat.lt_irrefl _)
 ·exact hb z
theorem Fly.lift {H' : Hp} {s' : Shared} (bd : X.Body) (I : Inv X pins σ H s) (f : Fly X.prog X.w X.stack H s a C d H' s' B a0) (fl : Heap.FlyingW B X.outer a (.ref C) a0 h2) (up : s'.heap.UpToSlots h2) (dk : DK s'.heap h2) :
  Fly X.prog X.w X.outer X.H_0 X.s_0 a C d H' { s' with heap := h2 } B a0 := by
 have I' : Inv X pins σ H' s' := I.call' f.os f.un f.hok f.bare fun b z => absurd z (by simp)
 have nx : ∀ b : Addr, b ∉ X.ex := fun b hb => by rw [bd.ex] at hb; cases hb
 refine fly_mk bd I' f.no (fun b o e n hb => ?_) f.k2 (fun b o e hb => ?_) fl up ?_
 ·exact f.k1 b o (I.base.keep b o e n hb (nx b)) (I.base.free b o e n (nx b)) (bd.nofr I e hb)
 ·obtain ⟨o', e1⟩ := I.base.there b o e (nx b)
  exact f.k3 b o' e1 (bd.nofr I e hb)
 ·obtain ⟨oe, e1, e2, e5⟩ := f.dict
  obtain ⟨o', e3, e4, e6⟩ := dk _ _ e1
  exact ⟨o', e3, e4.trans e2, fun z => e6.trans (e5 z)⟩
end
section
variable {P : Program} {w : World} {K : PySem.W.Frag} {mg : Str → Option Value} {base : Heap} {N : List Str} {qual : Str} {scope : Scope} {f : Addr} {cd : Value} {A : Around} {outer : List Env} {s0 : Shared} {H0 : Hp} {E : XK}
theorem body_of : (cxOf (CXF P w) P w K mg base N qual scope f cd A outer s0 H0 E).Body := ⟨rfl, rfl, rfl⟩
theorem passF : Passes (CXF P w) (cxOf (CXF P w) P w K mg base N qual scope f cd A outer s0 H0 E) E := by
 rintro pins σ H s e s' I ⟨a, C, d, H', B, a0, rfl, fly, hE⟩
 have h1 : wpAny (model P w) (A.deeper (envOfC qual scope s0.heap.objs.size f cd)) (leaving (envOfC qual scope s0.heap.objs.size f cd) (.ref a))
   (fun _ s2 => ∃ h2, s2 = { s' with heap := h2 } ∧ Heap.FlyingW B outer a (.ref C) a0 h2 ∧ s'.heap.UpToSlots h2) (fun e' s'' => CXF P w outer H0 s0 E e' s'') s' :=
  wpAny_leaves_onW I.ok.frames rfl fly.fl fun h2 x1 x2 => ⟨h2, rfl, x1, x2⟩
 refine wpAny_mono (wpAny_dk (kd_leaving _ _) h1) (fun _ s2 ⟨⟨h2, e2, x1, x2⟩, dk⟩ => ?_) fun _ _ x => x
 subst e2
 exact ⟨a, C, d, H', B, a0, rfl, fly.lift body_of I x1 x2 dk, hE⟩
theorem raiseF {pins : List (Addr × Obj)} {σ : St} {H : Hp} {s : Shared} {h' : Heap} {a C : Addr} {args : List Value} (I : Inv (cxOf (CXF P w) P w K mg base N qual scope f cd A outer s0 H0 E) pins σ H s)
  (m : Heap.MadeExcOf s.heap h' a (.ref C) args) (hE : E (.ref C) none H) : (cxOf (CXF P w) P w K mg base N qual scope f cd A outer s0 H0 E).xe (.ref a) { s with heap := h' } := by
 have bd := body_of (P := P) (w := w) (K := K) (mg := mg) (base := base) (N := N) (qual := qual) (scope := scope) (f := f) (cd := cd) (A := A) (outer := outer) (s0 := s0) (H0 := H0) (E := E)
 have stk := I.stack
 have nx : ∀ b : Addr, b ∉ (cxOf (CXF P w) P w K mg base N qual scope f cd A outer s0 H0 E).ex := fun b hb => by cases hb
 have hB : ∀ b o, s.heap.get? b = some o → b ∉ frs (cxOf (CXF P w) P w K mg base N qual scope f cd A outer s0 H0 E).stack → (PySem.W.hideAll s.heap (frs (cxOf (CXF P w) P w K mg base N qual scope f cd A outer s0 H0 E).stack)).get? b = some o :=
  fun b o e n => PySem.W.hideAll_get _ e n
 have ff : s.heap.FunFrames (PySem.W.hideAll s.heap (frs (cxOf (CXF P w) P w K mg base N qual scope f cd A outer s0 H0 E).stack)) (envOfC qual scope s0.heap.objs.size f cd :: outer) :=
  PySem.W.funFrames_hide stk fun env he b hb => List.mem_filterMap.mpr ⟨env, he, hb⟩
 have hnone : H a = none := by
  cases q : H a with
  | none => rfl
  | some u =>
   obtain ⟨ob, e⟩ := (I.hok a u q).there
   rw [m.new] at e
   cases e
 have h1 : wpAny (model P w) (A.deeper (envOfC qual scope s0.heap.objs.size f cd)) (leaving (envOfC qual scope s0.heap.objs.size f cd) (.ref a))
   (fun _ s2 => ∃ h2 t, s2 = { s with heap := h2 } ∧ Heap.FlyingW (PySem.W.hideAll s.heap (frs (cxOf (CXF P w) P w K mg base N qual scope f cd A outer s0 H0 E).stack)) outer a (.ref C) (.ref t) h2 ∧ h'.UpToSlots h2) (fun e' s'' => CXF P w outer H0 s0 E e' s'') { s with heap := h' } :=
  wpAny_leaves_madeW I.ok.frames rfl (fun b o q => PySem.W.of_hideAll _ q) ff m fun h2 t x1 _ _ x4 => ⟨h2, t, rfl, x1, x4⟩
 refine wpAny_mono (wpAny_dk (kd_leaving _ _) h1) (fun _ s2 ⟨⟨h2, t, e2, x1, x2⟩, dk⟩ => ?_) fun _ _ x => x
 subst e2
 obtain ⟨t0, he, _, _⟩ := m.there
 refine ⟨a, C, none, H, _, .ref t, rfl, fly_mk bd I hnone (fun b o e n hb => hB b o (I.base.keep b o e n hb (nx b)) (bd.nofr I e hb)) (fun b o e => ?_) (fun b o e hb => ?_) x1 ((Heap.UpToSlots.of_keeps m.keeps).trans x2) ?_, hE⟩
 ·obtain ⟨ob, q⟩ := (I.hok b o e).there
  refine ⟨ob, hB b ob q fun hm => ?_, q⟩
  have := I.stkFree b hm
  rw [e] at this
  cases this
 ·obtain ⟨o', e1⟩ := I.base.there b o e (nx b)
  exact ⟨o', hB b o' e1 (bd.nofr I e hb)⟩
 ·obtain ⟨o', e3, e4, e6⟩ := dk _ _ he
  exact ⟨o', e3, e4, fun _ => e6⟩
end
theorem Fun.okX {P : Program} {w : World} {K : PySem.W.Frag} {mg : Str → Option Value} {base : Heap} {x qual : Str} {st : Stmt} {f : Addr} {fd : FuncData} {N ps : List Str} {k : Nat} {sp : Sp} (F : Fun K x qual st f fd) (S : FnScope N ps (defScope st)) (len : ∀ vs H Q E, sp vs H Q E → vs.length = ps.length)
  (hbody : ∀ (cdv : Value) (A : Around) (outer : List Env) (s : Shared) (H : Hp) (vs : List V) (Q : VK) (E : XK), Room k (A.deeper (envOfC qual (defScope st) s.heap.objs.size f cdv)) → sp vs H Q E →
   ∃ t, PSs (cxOf (CXF P w) P w K mg base N qual (defScope st) f cdv A outer s H E) (defBody st) t ∧ t { nx := fun _ H' => Q .non H', rt := Q } (start N vs) H) : FnOk P w K mg base (CXF P w) (k + 1) f fd ps sp := by
 obtain ⟨oc, od, kV, doc, pm, an, cdv, ct, osl, rfl, lk, hcd⟩ := F.ex
 refine fn_of lk hcd S len fun A outer s H vs Q E hr hsp => ?_
 obtain ⟨t, h, q⟩ := hbody cdv A outer s H vs Q E hr hsp
 exact ⟨t, h, q⟩
theorem own_pass {P : Program} {w : World} {K : PySem.W.Frag} {mg : Str → Option Value} {base : Heap} {N : List Str} {qual : Str} {scope : Scope} {f : Addr} {cd : Value} {A : Around} {outer : List Env} {s0 : Shared} {H0 : Hp} {E : XK} :
  PassesOwn (model (cxOf (CXF P w) P w K mg base N qual scope f cd A outer s0 H0 E).prog (cxOf (CXF P w) P w K mg base N qual scope f cd A outer s0 H0 E).w) (cxOf (CXF P w) P w K mg base N qual scope f cd A outer s0 H0 E).A (cxOf (CXF P w) P w K mg base N qual scope f cd A outer s0 H0 E).env (cxOf (CXF P w) P w K mg base N qual scope f cd A outer s0 H0 E).xe :=
 PassesOwn.leaving
structure ExcC (K : PySem.W.Frag) (mg : Str → Option Value) (x : Str) (C : Addr) : Prop where
 mg : mg x = some (.ref C)
 ob : PySem.W.excIn K C [.type "Exception", .type "BaseException", .type "object"] "Exception.__new__" = true
 kp : PySem.W.keepIn K (.ref C) = true
theorem ExcC.obj {K : PySem.W.Frag} {mg : Str → Option Value} {x : Str} {C : Addr} {h : Heap} (c : ExcC K mg x C) (KX : K.In h) :
  ∃ (bm : List Value) (N : Addr) (nm q : Str) (bs : List Value) (hdct : Bool) (sn : List Str) (sub : List Value) (ab : Bool) (col : Option Bool) (dd : Option Addr) (k0 k1 k2 k3 k5 : Option Value) (mN : Str → Option Value),
   h.get? C = some (excClassObj nm q C N bs bm hdct sn sub ab col dd k0 k1 k2 k3 k5 "Exception.__new__") ∧ h.Ns N mN ∧ mN "__init__" = none ∧ OwnTail h [.type "Exception", .type "BaseException", .type "object"] bm := by
 have z := c.ob
 unfold PySem.W.excIn at z
 split at z
 ·rename_i dd cl sl ho
  split at z
  ·rename_i D bm k0 k1 k2 k3 n k5 hm hs
   simp only [Bool.and_eq_true, beq_iff_eq, Bool.not_eq_true'] at z
   obtain ⟨⟨⟨⟨⟨e1, e2⟩, e3⟩, e4⟩, e5⟩, e6⟩ := z
   subst e1
   subst e2
   obtain ⟨nm, bs, mro, ns, qn, hd, sn, sub, ab, col, del⟩ := cl
   dsimp only at hm e3 e5 e6
   subst hm
   subst e3
   have e7 : sl = #[k0, k1, k2, k3, some (.builtin "Exception.__new__"), k5] := by
    obtain ⟨l⟩ := sl
    simp only at hs
    rw [hs]
   subst e7
   exact ⟨bm, ns, nm, qn, bs, hd, sn, sub, ab, col, dd, k0, k1, k2, k3, k5, _, KX _ _ ho, .of_isNs (PySem.W.isNs_of_in KX e5), PySem.W.nsMap_none_of_in KX e5 e6, PySem.W.tail_of_in KX e4⟩
  ·cases z
 ·cases z
def tRaise (E : XK) (C : Addr) : TS := fun _ _ H => E (.ref C) none H
theorem ps_raise {P : Program} {w : World} {K : PySem.W.Frag} {mg : Str → Option Value} {base : Heap} {N : List Str} {qual : Str} {scope : Scope} {f : Addr} {cd : Value} {A : Around} {outer : List Env} {s0 : Shared} {H0 : Hp} {E : XK} {k : Nat} {x : Str} {C : Addr} {np cpos pos : Pos}
  (c : ExcC K mg x C) (hr : Room k (A.deeper (envOfC qual scope s0.heap.objs.size f cd))) (hg : Gl (cxOf (CXF P w) P w K mg base N qual scope f cd A outer s0 H0 E) x) (hdb : (x == ("__debug__" : Str)) = false := by decide) :
  PS (cxOf (CXF P w) P w K mg base N qual scope f cd A outer s0 H0 E) (.Raise (some (.Call (.Name x np) [] [] cpos)) none pos) (tRaise E C) := by
 intro pins s σ H D I h
 obtain ⟨bm, Ns, nm, q, bs, hdct, sn, sub, ab, col, dd, k0, k1, k2, k3, k5, mN, hC, hN, hni, T⟩ := c.obj I.kIn
 refine wpAny_Raise_call_subT (C := C) (nm := nm) (q := q) (N := Ns) (bs := bs) (bm := bm) (hdct := hdct) (sn := sn) (sub := sub) (ab := ab) (col := col) (dd := dd) (k0 := k0) (k1 := k1) (k2 := k2) (k3 := k3) (k5 := k5)
  PySem.F.excBase_Exception (mN := mN) (T.hasType PySem.F.excBase_Exception.hasBase) hr.hd rfl hni (ld_glob I hg c.mg ⟨rfl, ?_⟩ hdb)
 exact evalArgs_empty ⟨rfl, Nat.zero_le _, hC, hN, T, fun h' e m => raiseF I m h⟩
end L2
namespace L2
open PySem PySem.Spec PyProof.Rows
section
variable {P : Program} {w : World} {outer : List Env} {H H' : Hp} {s s' : Shared} {a C : Addr} {d : Option Addr} {B h2 : Heap} {a0 : Value}
theorem Fly.move (f : Fly P w outer H s a C d H' s' B a0) (fl : Heap.FlyingW B outer a (.ref C) a0 h2) (up : s'.heap.UpToSlots h2) (dk : DK s'.heap h2) : Fly P w outer H s a C d H' { s' with heap := h2 } B a0 := by
 refine ⟨f.os, f.bare, ⟨fun b o e n hb _ => fl.1 b o (f.k1 b o e n hb), fun b o e n hb hx => ?_, f.un.free, fun b o e hx => ?_, f.un.tups, f.un.frzs, f.un.tbls⟩, fun b o e => ?_, f.no, fl, ?_, f.k1, fun b o e => ?_, f.k3⟩
 ·obtain ⟨sl, e1⟩ := f.un.slot b o e n hb hx
  obtain ⟨_, o1, e2, nf⟩ := f.fl.2.2.1.mem hb
  rw [e1] at e2
  cases e2
  obtain ⟨sl2, e3⟩ := up b _ e1 nf
  exact ⟨sl2, e3⟩
 ·by_cases hb : b ∈ frs outer
  ·obtain ⟨_, o1, e2, nf⟩ := f.fl.2.2.1.mem hb
   obtain ⟨sl, e3⟩ := up b _ e2 nf
   exact ⟨_, e3⟩
  ·obtain ⟨ob, q⟩ := f.k3 b o e hb
   exact ⟨ob, fl.1 b ob q⟩
 ·refine (f.hok b o e).stay (fun c v hc q => ?_) (fun _ q => q) fun _ _ q => q
  have : ∃ u, H' c = some u := by
   rcases hc with z | z
   ·exact ⟨o, by rw [z]; exact e⟩
   ·exact ⟨_, z⟩
  obtain ⟨u, hu⟩ := this
  obtain ⟨ob, e1, e2⟩ := f.k2 c u hu
  rw [q] at e2
  cases e2
  exact fl.1 _ _ e1
 ·obtain ⟨oe, e1, e2, e5⟩ := f.dict
  obtain ⟨o', e3, e4, e6⟩ := dk _ _ e1
  exact ⟨o', e3, e4.trans e2, fun z => e6.trans (e5 z)⟩
 ·obtain ⟨ob, e1, _⟩ := f.k2 b o e
  exact ⟨ob, e1, fl.1 b ob e1⟩
end
structure XCl (K : PySem.W.Frag) (mg : Str → Option Value) (x : Str) (C : Addr) : Prop where
 mg : mg x = some (.ref C)
 ob : ∀ h : Heap, K.In h → ∃ (bm : List Value) (N : Addr) (nm q : Str) (bs : List Value) (hdct : Bool) (sn : List Str) (sub : List Value) (ab : Bool) (col : Option Bool) (dd : Option Addr) (k0 k1 k2 k3 k5 : Option Value),
   h.get? C = some (excClassObj nm q C N bs bm hdct sn sub ab col dd k0 k1 k2 k3 k5 "Exception.__new__") ∧ bm.contains (.type "BaseException") = true
theorem ExcC.xcl {K : PySem.W.Frag} {mg : Str → Option Value} {x : Str} {C : Addr} (c : ExcC K mg x C) : XCl K mg x C := ⟨c.mg, fun h KX => by
 obtain ⟨bm, N, nm, q, bs, hdct, sn, sub, ab, col, dd, k0, k1, k2, k3, k5, mN, e1, _, _, T⟩ := c.obj KX
 exact ⟨bm, N, nm, q, bs, hdct, sn, sub, ab, col, dd, k0, k1, k2, k3, k5, e1, T.hasType PySem.F.excBase_Exception.hasBase⟩⟩
abbrev Cx.inH (X : Cx) (a : Addr) : Cx := { X with A := X.A.mark (some (.ref a)), calm := false }
theorem Cx.Ok.inH {X : Cx} (ok : X.Ok) (a : Addr) : (X.inH a).Ok :=
 ⟨ok.mod, ok.kind, ok.glob, ok.blt, ok.above, ok.inj, ok.has, ok.cab, (fun z => nomatch z), ok.frames, ok.stk, ok.exf, ok.bs, ok.bsz, ok.noex, ok.exfs, ok.funs, ok.frf⟩
section
variable {X : Cx} {pins : List (Addr × Obj)} {σ : St} {H H' : Hp} {s s' : Shared} {a C : Addr} {d : Option Addr} {B : Heap} {a0 : Value}
theorem Inv.inH (I : Inv X pins σ H s) (a : Addr) : Inv (X.inH a) pins σ H s := ⟨I.ok.inH a, I.os, I.bare, I.base, I.loc, I.cell, I.free, I.freeC, I.pin, I.hok, I.len⟩
theorem Inv.outH (I : Inv (X.inH a) pins σ H s) (ok : X.Ok) : Inv X pins σ H s := ⟨ok, I.os, I.bare, I.base, I.loc, I.cell, I.free, I.freeC, I.pin, I.hok, I.len⟩
theorem Inv.moreP {p : Addr × Obj} (I : Inv X pins σ H s) (h1 : s.heap.get? p.1 = some p.2) (h2 : H p.1 = none) (h3 : p.1 ≠ X.env.locals) (h4 : p.1 ∉ X.fs) (h5 : ∀ v, p.2.data ≠ .cell v) : Inv X (p :: pins) σ H s :=
 I.pins_of fun q hq => by
  rcases List.mem_cons.mp hq with z | z
  ·rw [z]; exact ⟨h1, h2, h3, h4, h5⟩
  ·exact I.pin q (List.mem_append_right _ z)
theorem Inv.lessP {p : Addr × Obj} (I : Inv X (p :: pins) σ H s) : Inv X pins σ H s := I.pins_of fun q hq => I.pin q (List.mem_append_right _ (List.mem_cons_of_mem _ hq))
theorem Fly.inv (I : Inv X pins σ H s) (f : Fly X.prog X.w X.stack H s a C d H' s' B a0) : Inv X pins σ H' s' := I.call' f.os f.un f.hok f.bare fun b z => absurd z (by simp)
theorem Fly.pin (bd : X.Body) (I : Inv X pins σ H s) (f : Fly X.prog X.w X.stack H s a C d H' s' B a0) : ∃ oe, Inv X ((a, oe) :: pins) σ H' s' ∧ oe.cls = .ref C ∧ oe.dict = d ∧ (d = none → fld2 oe = some .none) ∧ ∃ vs, oe.data = .fields vs := by
 obtain ⟨oe, vs, e1, e2, e3, e4⟩ := f.fl.first
 obtain ⟨oe', e5, e6, e7⟩ := f.dict
 rw [e1] at e5
 cases e5
 have hf : a ∉ frs X.stack := fun hm => by
  obtain ⟨_, o1, q, nf⟩ := f.fl.2.2.1.mem hm
  rw [e1] at q
  cases q
  exact nf vs e3
 rw [bd.frs_stack] at hf
 exact ⟨oe, (f.inv I).moreP e1 f.no (fun z => hf (by rw [show a = X.env.locals from z]; exact List.mem_cons_self)) (fun z => hf (List.mem_cons_of_mem _ z)) (fun v z => by rw [e3] at z; cases z), e2, e6, e7, vs, e3⟩
theorem land {E : Value → Shared → Prop} {hs : List ExceptHandler} {Q : Flow → Shared → Prop} (bd : X.Body) (ok : X.Ok) (f : Fly X.prog X.w X.stack H s a C d H' s' B a0)
  (h : ∀ s3, Fly X.prog X.w X.stack H s a C d H' s3 B a0 → wpAny (model X.prog X.w) X.A (handleBy (.ref a) X.env hs) Q E s3) :
  wpAny (model X.prog X.w) X.A (noteFrame (.ref a) X.env) (fun _ s2 => wpAny (model X.prog X.w) X.A (setFlight (.ref a) none) (fun _ s3 => wpAny (model X.prog X.w) X.A (handleBy (.ref a) X.env hs) Q E s3) E s2) E s' := by
 have fl := f.fl
 rw [bd.st] at fl
 have hfr : X.A.frames = some (X.env :: X.outer) := by rw [← bd.st]; exact ok.frames
 have h1 : wpAny (model X.prog X.w) X.A (noteFrame (.ref a) X.env) (fun _ s2 => ∃ h4, s2 = { s' with heap := h4 } ∧ Heap.HeldW B (X.env :: X.outer) a (.ref C) a0 X.env.locals h4 ∧ s'.heap.UpToSlots h4) E s' :=
  wpAny_looks_onW hfr bd.fr fl fun h4 x1 x2 => ⟨h4, rfl, x1, x2⟩
 refine wpAny_mono (wpAny_dk (kd_note _ _) h1) (fun _ s2 ⟨⟨h4, e2, x1, x2⟩, dk⟩ => ?_) fun _ _ x => x
 subst e2
 have h3 : wpAny (model X.prog X.w) X.A (setFlight (.ref a) none) (fun _ s3 => ∃ h5, s3 = { s' with heap := h5 } ∧ Heap.FlyingW B (X.env :: X.outer) a (.ref C) a0 h5 ∧ h4.UpToSlots h5) E { s' with heap := h4 } :=
  wpAny_landsW x1 fun h5 y1 y2 => ⟨h5, rfl, y1, y2⟩
 refine wpAny_mono (wpAny_dk (kd_flight _ _) h3) (fun _ s3 ⟨⟨h5, e3, y1, y2⟩, dk2⟩ => ?_) fun _ _ x => x
 subst e3
 rw [← bd.st] at y1
 exact h _ (f.move y1 (x2.trans y2) (dk.trans dk2))
theorem clause0 {E : Value → Shared → Prop} {x : Str} {np pos : Pos} {b0 : Stmt} {suite : List Stmt} {rest : List ExceptHandler} {Q : Flow → Shared → Prop} (c : XCl X.K X.mg x C) (hg : Gl X x) (I : Inv X pins σ H s) (f : Fly X.prog X.w X.stack H s a C d H' s' B a0)
  (h : ∀ s4, Fly X.prog X.w X.stack H s a C d H' s4 B a0 → wpAny (model X.prog X.w) (X.A.mark (some (.ref a))) (execs (b0 :: suite) X.env) Q E s4)
  (hE : PassesOwnAt (model X.prog X.w) (X.A.mark (some (.ref a))) X.A X.env E) (hdb : (x == ("__debug__" : Str)) = false := by decide) :
  wpAny (model X.prog X.w) X.A (handleBy (.ref a) X.env (.ExceptHandler (some (.Name x np)) none (b0 :: suite) pos :: rest)) Q E s' := by
 refine wpAny_handleBy_cons (codeAny_handlers_test (ld_glob ((f.inv I).inH a) hg c.mg ?_ hdb)) (by intro q; cases q)
 obtain ⟨bm, N, nm, q, bs, hdct, sn, sub, ab, col, dd, k0, k1, k2, k3, k5, hC, hB⟩ := c.ob s'.heap (f.inv I).kIn
 obtain ⟨oe, he, hcls⟩ := f.fl.there
 obtain ⟨hh, g, dr, tk, os⟩ := s'
 refine wpAny_excMatches_sub_self hC he hcls hB (codeAny_handlers_suite ?_)
 have h3 : wpAny (model X.prog X.w) (X.A.mark (some (.ref a))) (setFlight (.ref a) none) (fun _ s3 => ∃ h5, s3 = { (⟨hh, g, dr, tk, os⟩ : Shared) with heap := h5 } ∧ Heap.FlyingW B X.stack a (.ref C) a0 h5 ∧ hh.UpToSlots h5)
   (notedBy (model X.prog X.w) (X.A.mark (some (.ref a))) X.env (cameBackBy (model X.prog X.w) X.A X.env E)) ⟨hh, g, dr, tk, os⟩ :=
  lands_againW f.fl fun h5 y1 y2 => ⟨h5, rfl, y1, y2⟩
 refine wpAny_mono (wpAny_dk (kd_flight _ _) h3) (fun _ s3 ⟨⟨h5, e3, y1, y2⟩, dk2⟩ => ?_) fun _ _ x => x
 subst e3
 exact wpAny_passesOwnAt hE (h _ (f.move y1 y2 dk2))
theorem SP.outH {D : Ends} {fl : Flow} {p : Addr × Obj} (ok : X.Ok) (h : SP (X.inH a) (p :: pins) D fl s) : SP X pins D fl s := by
 cases fl with
 | next => obtain ⟨σ', H', I, q⟩ := h; exact ⟨σ', H', (I.outH ok).lessP, q⟩
 | brk => obtain ⟨σ', H', I, q⟩ := h; exact ⟨σ', H', (I.outH ok).lessP, q⟩
 | cont => obtain ⟨σ', H', I, q⟩ := h; exact ⟨σ', H', (I.outH ok).lessP, q⟩
 | ret u => obtain ⟨v, σ', H', I, r, q⟩ := h; exact ⟨v, σ', H', (I.outH ok).lessP, r, q⟩
end
abbrev Cx.with2 (X : Cx) (xe : Value → Shared → Prop) (pn : List (Addr × Obj)) : Cx := { X with xe := xe, pn := pn }
section
variable {X : Cx} {pins ps : List (Addr × Obj)} {σ : St} {H : Hp} {s : Shared} {xe : Value → Shared → Prop}
theorem Cx.Ok.with2 (ok : X.Ok) (xe : Value → Shared → Prop) (pn : List (Addr × Obj)) : (X.with2 xe pn).Ok :=
 ⟨ok.mod, ok.kind, ok.glob, ok.blt, ok.above, ok.inj, ok.has, ok.cab, ok.hd, ok.frames, ok.stk, ok.exf, ok.bs, ok.bsz, ok.noex, ok.exfs, ok.funs, ok.frf⟩
theorem Inv.with2 (I : Inv X pins σ H s) (xe : Value → Shared → Prop) : Inv (X.with2 xe (X.pn ++ pins)) [] σ H s := ⟨I.ok.with2 _ _, I.os, I.bare, I.base, I.loc, I.cell, I.free, I.freeC, fun p hp => I.pin p (by rw [List.append_nil] at hp; exact hp), I.hok, I.len⟩
theorem Inv.un2 (I : Inv (X.with2 xe (X.pn ++ pins)) ps σ H s) (ok : X.Ok) : Inv X (pins ++ ps) σ H s := ⟨ok, I.os, I.bare, I.base, I.loc, I.cell, I.free, I.freeC, fun p hp => I.pin p (by rw [← List.append_assoc] at hp; exact hp), I.hok, I.len⟩
theorem Inv.un20 (I : Inv (X.with2 xe (X.pn ++ pins)) [] σ H s) (ok : X.Ok) : Inv X pins σ H s := by
 have := I.un2 ok
 rw [List.append_nil] at this
 exact this
theorem SP.un20 {D : Ends} {f : Flow} {s' : Shared} (ok : X.Ok) (h : SP (X.with2 xe (X.pn ++ pins)) [] D f s') : SP X pins D f s' := by
 cases f with
 | next => obtain ⟨σ', H', I, q⟩ := h; exact ⟨σ', H', I.un20 ok, q⟩
 | brk => obtain ⟨σ', H', I, q⟩ := h; exact ⟨σ', H', I.un20 ok, q⟩
 | cont => obtain ⟨σ', H', I, q⟩ := h; exact ⟨σ', H', I.un20 ok, q⟩
 | ret u => obtain ⟨v, σ', H', I, r, q⟩ := h; exact ⟨v, σ', H', I.un20 ok, r, q⟩
theorem Inv.firstP (I : Inv X (pins ++ ps) σ H s) : Inv X pins σ H s := I.pins_of fun q hq => I.pin q (List.mem_append_right _ (List.mem_append_left _ hq))
theorem Inv.blank (I : Inv X pins σ H s) : Inv X pins (List.replicate X.N.length none) H s := I.weak (by rw [List.length_replicate, I.len]) fun i v e => by
 rw [List.getElem?_replicate] at e
 split at e <;> cases e
end
def tTry (n : Nat) (C : Addr) (tb : XK → TS) (th : TS) : TS := fun D σ H => tb (fun cv d H' => cv = .ref C ∧ th D (List.replicate n none) H') D σ H
def PH (X : Cx) (C : Addr) (suite : List Stmt) (th : TS) : Prop := ∀ (pins : List (Addr × Obj)) (σ : St) (H : Hp) (s : Shared) (a : Addr) (oe : Obj) (D : Ends), Inv (X.inH a) ((a, oe) :: pins) σ H s → oe.cls = .ref C → th D σ H →
 wpAny (model X.prog X.w) (X.A.mark (some (.ref a))) (execs suite X.env) (SP X pins D) X.xe s
theorem ph_of {X : Cx} {C : Addr} {suite : List Stmt} {th : TS} (hh : X.A.handled = none) (h : ∀ a, PSs (X.inH a) suite th) : PH X C suite th := by
 intro pins σ H s a oe D I _ q
 have okX : X.Ok := ⟨I.ok.mod, I.ok.kind, I.ok.glob, I.ok.blt, I.ok.above, I.ok.inj, I.ok.has, I.ok.cab, fun _ => hh, I.ok.frames, I.ok.stk, I.ok.exf, I.ok.bs, I.ok.bsz, I.ok.noex, I.ok.exfs, I.ok.funs, I.ok.frf⟩
 exact thn (h a _ s σ H D I q) fun fl s' z => z.outH okX
theorem ps_try {X : Cx} {C : Addr} {x : Str} {np hpos pos : Pos} {body : List Stmt} {b0 : Stmt} {suite : List Stmt} {tb : XK → TS} {th : TS} (bd : X.Body) (c : XCl X.K X.mg x C) (hg : Gl X x)
  (hE : ∀ a, PassesOwnAt (model X.prog X.w) (X.A.mark (some (.ref a))) X.A X.env X.xe)
  (hb : ∀ (xe : Value → Shared → Prop) (pn : List (Addr × Obj)) (E' : XK), Passes (CXF X.prog X.w) (X.with2 xe pn) E' → PSs (X.with2 xe pn) body (tb E'))
  (hs : PH X C (b0 :: suite) th) (hdb : (x == ("__debug__" : Str)) = false := by decide) :
  PS X (.Try body [.ExceptHandler (some (.Name x np)) none (b0 :: suite) hpos] [] [] pos) (tTry X.N.length C tb th) := by
 intro pins s σ H D I h
 have ok := I.ok
 refine wpAny_Try_except ?_
 have hp : Passes (CXF X.prog X.w) (X.with2 (fun e s' => ∃ ps σ' H1 s1, Inv X (pins ++ ps) σ' H1 s1 ∧ CXF X.prog X.w X.stack H1 s1 (fun cv d H' => cv = .ref C ∧ th D (List.replicate X.N.length none) H') e s') (X.pn ++ pins)) (fun cv d H' => cv = .ref C ∧ th D (List.replicate X.N.length none) H') :=
  fun ps σ' H1 s1 e s' I1 q => ⟨ps, σ', H1, s1, I1.un2 ok, q⟩
 refine wpAny_mono (hb _ _ _ hp [] s σ H D (I.with2 _) h) (fun f s1 q => ?_) fun e s1 q => ?_
 ·have q' := q.un20 ok
  cases f with
  | next => exact wpAny_execs_nil q'
  | ret v => exact q'
  | brk => exact q'
  | cont => exact q'
 ·obtain ⟨ps, σ', H1, s2, I1, a, C', d, H', B, a0, rfl, f, e1, q⟩ := q
  cases e1
  have I2 := I1.firstP.blank
  refine land bd ok f fun s3 f3 => clause0 c hg I2 f3 (fun s4 f4 => ?_) (hE a) hdb
  obtain ⟨oe, I4, o1, o2, _⟩ := f4.pin bd I2
  exact hs pins _ H' s4 a oe D (I4.inH a) o1 q
end L2
namespace L2
open PySem PySem.Spec PyProof.Rows
theorem entry_unchain : entryFor table "proto.unchain" = some Builtin.«proto.unchain» := entryFor_of_tree (by kernel_rfl)
section
variable {prog : Program} {w : World} {A : Around} {E : Value → Shared → Prop} {s : Shared} {env : Env}
theorem unchain_none {e : Value} {a1 : Addr} {o1 : Obj} {vs1 : Array Value} {Q : Value → Shared → Prop} (h1 : s.heap.get? a1 = some o1) (hd : o1.data = .fields vs1) (h2 : vs1[2]? = some .none) (q : Q .none s) :
  wpAny (model prog w) A (runValue (.builtin "proto.unchain" ⟨[e, .ref a1, .ref a1, .bool false], []⟩)) Q E s := by
 refine runValue_entry entry_unchain ?_
 unfold Builtin.«proto.unchain»
 dsimp only
 refine wpAny_bind (wpAny_field h1 hd h2 ?_)
 rw [if_pos (by decide)]
 repeat (any_goals (first | assumption | wp_step))
 exact ⟨_, rfl, q⟩
variable {nm q : Str} {C N : Addr} {bs bm : List Value} {hdct : Bool} {sn : List Str} {sub : List Value} {ab : Bool} {col : Option Bool} {dd : Option Addr} {k0 k1 k2 k3 k5 : Option Value} {newId : String}
theorem raiseStmt_from_none {x : Sem Value} {c : Sem Value} {Q : Flow → Shared → Prop} {a1 : Addr} (hbase : bm.contains (.type "BaseException") = true) (hh : A.handled = some (.ref a1))
  (hc : ∀ (Q' : Value → Shared → Prop) s1, Q' .none s1 → wpAny (model prog w) A c Q' E s1)
  (h : wpAny (model prog w) A x (fun v s₁ => ∃ e t o o1 vs1, v = .ref e ∧ s₁.heap.get? C = some (excClassObj nm q C N bs bm hdct sn sub ab col dd k0 k1 k2 k3 k5 newId) ∧ C ≠ e ∧
   s₁.heap.get? e = some o ∧ o.cls = .ref C ∧ o.data = .fields #[.ref t, .none, .none, .none, .bool false, .none] ∧ s₁.heap.get? a1 = some o1 ∧ a1 ≠ e ∧ o1.data = .fields vs1 ∧ vs1[2]? = some .none ∧
   ∀ h', (∀ b, b ≠ e → h'.get? b = s₁.heap.get? b) → h'.get? e = some { o with data := .fields #[.ref t, .none, .ref a1, .none, .bool true, .none] } → E (.ref e) { s₁ with heap := h' }) E s) :
  wpAny (model prog w) A (raiseStmt env (some x) (some c)) Q E s := by
 have hcB : (Value.ref C :: bm).contains (.type "BaseException") = true := by rw [List.contains_cons, hbase, Bool.or_true]
 unfold raiseStmt
 refine wpAny_bind (wpAny_mono h (fun v s₁ h₁ => ?_) fun _ _ x => x)
 obtain ⟨e, t, o, o1, vs1, rfl, hC, hne, he, hcl, hd, h1, hne1, hd1, h12, hE⟩ := h₁
 obtain ⟨ocls, odict, odata, oslots⟩ := o
 simp only at hcl hd
 subst hcl; subst hd
 dsimp only
 refine wpAny_bind (wpAny_holding (hc _ _ ?_))
 refine wpAny_bind (wpAny_pure ?_)
 obtain ⟨hp, g, d, tk, os⟩ := s₁
 dsimp only
 repeat (first | with_reducible refine wpAny_loadPart_at he ?_ | with_reducible refine wpAny_loadPart_at hC ?_ | (with_reducible refine wpAny_isSubtype_exc hC ?_; rw [hcB]) | wp_step)
 have q1 := Heap.get?_update_self (Obj.mapFields (·.setIfInBounds 3 Value.none)) he (Obj.isFreed_of_fields (Obj.data_mapFields rfl _))
 have q2 := Heap.get?_update_self (Obj.mapFields (·.setIfInBounds 4 (Value.bool true))) q1 (Obj.isFreed_of_fields (Obj.data_mapFields (Obj.data_mapFields rfl _) _))
 have o2 : ∀ b, b ≠ e → ((hp.update e (Obj.mapFields (·.setIfInBounds 3 Value.none))).update e (Obj.mapFields (·.setIfInBounds 4 (Value.bool true)))).get? b = hp.get? b := fun b hb => by
  rw [Heap.get?_update_other _ _ (Ne.symm hb), Heap.get?_update_other _ _ (Ne.symm hb)]
 unfold raiseNew
 refine wpAny_bind (wpAny_handled ?_)
 rw [hh]
 dsimp only
 rw [if_pos (show (Value.ref a1 != Value.ref e) = true by simpa using hne1)]
 refine wpAny_bind (wpAny_holding (unchain_none (o1 := o1) (vs1 := vs1) ?_ hd1 h12 (wpAny_bind ?_)))
 ·exact (o2 a1 hne1).trans h1
 ·refine wpAny_setField (i := 2) (x := .ref a1) q2 rfl (by simp) (wpAny_throw (hE _ (fun b hb => ?_) ?_))
  ·rw [Heap.get?_update_other _ _ (Ne.symm hb)]
   exact o2 b hb
  ·exact Heap.get?_update_self (Obj.mapFields (·.setIfInBounds 2 (Value.ref a1))) q2 (Obj.isFreed_of_fields (Obj.data_mapFields (Obj.data_mapFields (Obj.data_mapFields rfl _) _) _))
end
end L2
namespace L2
open PySem PySem.Spec PyProof.Rows
abbrev bmX : List Value := [.type "Exception", .type "BaseException", .type "object"]
section
variable {prog : Program} {w : World} {A : Around} {E : Value → Shared → Prop} {h : Heap} {g : Array GenState} {d : Drawn} {t : Nat} {os : OsState}
variable {nm q : Str} {C N x : Addr} {bs : List Value} {sn : List Str} {sub : List Value} {ab : Bool} {col : Option Bool} {dd : Option Addr} {k0 k1 k2 k3 k5 : Option Value} {newId : String}
 {mN mA : Str → Option Value} {name : Str} {v : Value}
theorem loadX_entry {tk : Tok} {Q : Fin → Shared → Prop}
  (hC : h.get? C = some (excClassObj nm q C N bs bmX true sn sub ab col dd k0 k1 k2 k3 k5 newId)) (hn : h.Ns N mN) (hna : mN name = none)
  (hB : typeLookup (.type "Exception") name = pure none) (I : h.Inst x C mA) (hv : mA name = some v) (hq : Q (.done (.ret v)) ⟨h, g, d, t, os⟩) :
  wpAny (model prog w) A (Builtin.«object.__getattribute__» ⟨[.ref x, .str name tk], []⟩) Q E ⟨h, g, d, t, os⟩ := by
 obtain ⟨o, hx, hc, hnc, hd⟩ := I
 rcases hd with ⟨_, hmA⟩ | ⟨dx, hdx, hne, hns⟩
 ·rw [hmA name] at hv; cases hv
 unfold Builtin.«object.__getattribute__»
 repeat (first | (with_reducible refine wpAny_loadPart_at hx ?_; rw [hc]) | (with_reducible refine wpAny_typeLookup_exc hC hn PySem.F.attrBase_Exception.mro hB ?_; rw [hna]) | wp_step)
 split
 ·rename_i c hcd
  exact absurd hcd (hnc c)
 unfold instanceDict
 repeat (first | (with_reducible refine wpAny_loadPart_at hx ?_; rw [hc]) | with_reducible refine wpAny_loadPart_at hC ?_ | wp_step)
 rw [hdx]
 unfold Builtin.ObjectAttr.inDict
 repeat (first | (with_reducible refine wpAny_nsGet hns.ns ?_; rw [hv]) | wp_step)
 exact hq
theorem checkX_ga {M : Model} {o : Obj} {nameV : Value} {Q : Unit → Shared → Prop} (hC : h.get? C = some (excClassObj nm q C N bs bmX true sn sub ab col dd k0 k1 k2 k3 k5 newId))
  (hx : h.get? x = some o) (hc : o.cls = .ref C) (hq : Q () ⟨h, g, d, t, os⟩) : wpAny M A (checkBuiltinCall "BaseException.__getattribute__" ⟨[.ref x, nameV], []⟩) Q E ⟨h, g, d, t, os⟩ := by
 have hk : builtinKind "BaseException.__getattribute__" = some .slot := by decide +kernel
 have hsplit : splitId "BaseException.__getattribute__" = some ("BaseException", "__getattribute__") := by decide +kernel
 have hcB : (Value.ref C :: bmX).contains (.type "BaseException") = true := by rw [List.contains_cons, PySem.F.attrBase_Exception.hasBase, Bool.or_true]
 have ha := PySem.F.args_bexc_ga (.ref x) nameV
 simp only [checkBuiltinCall, hk, hsplit]
 refine wpAny_bind ?_
 ·unfold isInstance
  repeat (first | (with_reducible refine wpAny_loadPart_at hx ?_; rw [hc]) | (with_reducible refine wpAny_isSubtype_exc hC ?_; rw [hcB]) | wp_step)
  exact hq
theorem loadX_attr {expr : Bool} {Q : Value → Shared → Prop}
  (hC : h.get? C = some (excClassObj nm q C N bs bmX true sn sub ab col dd k0 k1 k2 k3 k5 newId)) (hn : h.Ns N mN) (hng : mN "__getattribute__" = none) (hnh : mN "__getattr__" = none) (hna : mN name = none)
  (hB : typeLookup (.type "Exception") name = pure none) (I : h.Inst x C mA) (hv : mA name = some v) (hvb : ∀ id, v ≠ .builtin id) (hq : Q v ⟨h, g, d, t + 1, os⟩) :
  wpAny (model prog w) A (getAttr (.ref x) name expr) Q E ⟨h, g, d, t, os⟩ := by
 obtain ⟨o, hx, hc, _⟩ := id I
 have FB := PySem.F.attrBase_Exception
 have f3 := FB.ga.bind (.ref x)
 have hx0 : (expr && onTheHeap (Value.builtin "BaseException.__getattribute__")) = false := by cases expr <;> rfl
 have hx2 : (Value.builtin "BaseException.__getattribute__" == Value.builtin "object.__getattribute__") = false := by decide +kernel
 have hx1 : (onTheHeap (Value.ref C) && Value.builtin "BaseException.__getattribute__" == Value.builtin "object.__getattribute__") = false := by rw [hx2]; rfl
 unfold getAttr getAttrBy
 repeat (any_goals (first | assumption | (with_reducible refine wpAny_loadPart_at hx ?_; rw [hc]) | (with_reducible refine wpAny_typeLookup_exc hC hn FB.mro FB.ga.lookup ?_; rw [hng]) | (with_reducible refine wpAny_typeLookup_exc hC hn FB.mro FB.noGetattr ?_; rw [hnh]) | wp_step))
 refine codeAny_call_builtin FB.ga.plain PySem.F.entry_bexc_ga (checkX_ga hC hx hc (loadX_entry hC hn hna hB I hv ?_))
 repeat (any_goals (first | assumption | wp_step))
 cases v <;> first | exact wpAny_pure hq | exact absurd rfl (hvb _)
end
end L2
namespace L2
open PySem PySem.Spec PyProof.Rows
theorem bindL2 {k : Str → Option NameKind} {a y : Str} {u v : Value} {m : Str → Option Value} (h1 : k a = some .local) (h2 : k y = some .local) : bindL k [(a, u), (y, v)] m y = some v := by
 unfold bindL
 rw [if_pos h1]
 unfold bindL
 rw [if_pos h2]
 unfold bindL
 dsimp only; rw [if_pos rfl]
theorem bindL1 {k : Str → Option NameKind} {a y : Str} {u v : Value} {m : Str → Option Value} (h1 : k a = some .local) (h2 : k y = some .local) (hne : a ≠ y) : bindL k [(a, u), (y, v)] m a = some u := by
 unfold bindL
 rw [if_pos h1]
 unfold bindL
 rw [if_pos h2]
 unfold bindL
 dsimp only; rw [if_neg hne, if_pos rfl]
section
variable {prog : Program} {w : World} {A : Around} {s : Shared} {K : PySem.W.Frag} {fI e : Addr} {oc kV doc pm cdv ct v : Value} {od an : Option Addr} {osl : Array (Option Value)} {qual f y : Str} {params : Arguments} {scope : Scope} {p1 p2 p3 p4 : Pos} {R : Result → Shared → Prop}
theorem init_call (KX : K.In s.heap) (lim : s.heap.NoLimit)
  (lk : K.lookup fI = some ⟨oc, od, .func (PySem.W.fnOf "__init__" qual params [.Assign [.Attribute (.Name "self" p1) f p2] (.Name y p3) p4] scope .none kV doc pm an cdv ct), osl⟩) (hcd : PySem.W.codeIn K cdv qual = true)
  (hroom : A.depth < recursionLimit) (hbind : bindArgs (PySem.W.fnOf "__init__" qual params [.Assign [.Attribute (.Name "self" p1) f p2] (.Name y p3) p4] scope .none kV doc pm an cdv ct) ⟨[.ref e, v], []⟩ = pure [(("self" : Str), Value.ref e), (y, v)])
  (hk : scope.kind = .function) (hco : scope.isCoroutine = false) (hgen : scope.isGenerator = false) (h1 : scope.names.lookup ("self" : Str) = some .local) (h2 : scope.names.lookup y = some .local) (hne : ("self" : Str) ≠ y)
  (hdb : (y == ("__debug__" : Str)) = false)
  (hq : ∀ (env : Env) (h' : Heap) (tk : Nat), (∀ b o, s.heap.get? b = some o → h'.get? b = some o) →
   wpAny (model prog w) (A.deeper env) (setAttr (.ref e) f v) (fun _ s2 => R (.ok (.ret .none)) s2) (fun _ _ => False) { s with heap := h', toks := tk }) :
  codeAny (model prog w) A (.call (.ref fI) ⟨[.ref e, v], []⟩) R s := by
 have hkind : ∀ z ∈ [(("self" : Str), Value.ref e), (y, v)], scope.names.lookup z.1 = some .local ∨ (scope.names.lookup z.1 = some .cell ∧ ((cellsFrom (s.heap.objs.size + 1) scope.names []).lookup z.1).isSome = true) := fun z hz => by
  rcases List.mem_cons.mp hz with q | q
  ·rw [q]; exact .inl h1
  ·rcases List.mem_cons.mp q with q | q
   ·rw [q]; exact .inl h2
   ·cases q
 refine codeAny_call_function hroom (KX _ _ lk) rfl hco hgen rfl (PySem.W.codeRec_of KX hcd) ((PySem.BindsTo.of_eq hbind) _ _ _ _ ?_)
 refine wpAny_newFunctionEnv_cells hk hkind fun env he s1 x => ?_
 subst he
 refine ⟨lim.keeps x.toInCall.keep, codeAny_func ?_⟩
 have ns := x.toInCall.ns
 obtain ⟨h', tk, rfl, keep⟩ := x.done
 have k1 : (envOfC qual scope s.heap.objs.size fI cdv).kindOf "self" = some .local := h1
 have k2 : (envOfC qual scope s.heap.objs.size fI cdv).kindOf y = some .local := h2
 refine wpAny_execs_cons ?_
 refine plainObj_wpAny_Assign_Attribute ?_ rfl
 refine wpAny_Name (wpAny_loadName_local (v := v) hk k2 ns ?_ ?_) hdb
 ·exact bindL2 k1 k2
 ·refine wpAny_Name (wpAny_loadName_local (v := .ref e) hk k1 ns ?_ ?_) (by decide)
  ·exact bindL1 k1 k2 hne
  ·exact wpAny_mono (hq _ h' tk keep) (fun _ s2 z => wpAny_execs_nil z) fun _ _ z => z.elim
end
end L2
namespace L2
open PySem PySem.Spec PyProof.Rows
structure ExcI (K : PySem.W.Frag) (mg : Str → Option Value) (x f y qual : Str) (C fI : Addr) : Prop where
 mg : mg x = some (.ref C)
 kp : PySem.W.keepIn K (.ref C) = true
 lk : ∃ (N : Addr) (nm q : Str) (bs : List Value) (sn : List Str) (sub : List Value) (ab : Bool) (col : Option Bool) (dd : Option Addr) (k0 k1 k2 k3 k5 : Option Value),
  K.lookup C = some (excClassObj nm q C N bs bmX true sn sub ab col dd k0 k1 k2 k3 k5 "Exception.__new__") ∧ PySem.W.nsOkIn K N = true ∧ PySem.W.nsIn K N "__init__" = some (some (.ref fI)) ∧
  PySem.W.nsIn K N f = some none ∧ PySem.W.nsIn K N "__getattribute__" = some none ∧ PySem.W.nsIn K N "__getattr__" = some none
 sa : PySem.W.findIn K (.ref C) "__setattr__" = some (some (.builtin "object.__setattr__"))
 no : PySem.W.findIn K (.ref C) f = some none
 tl : typeLookup (.type "Exception") f = pure none
 fn : ∃ (p1 p2 p3 p4 : Pos) (oc : Value) (od an : Option Addr) (kV doc pm cdv ct : Value) (osl : Array (Option Value)) (params : Arguments) (scope : Scope),
  K.lookup fI = some ⟨oc, od, .func (PySem.W.fnOf "__init__" qual params [.Assign [.Attribute (.Name "self" p1) f p2] (.Name y p3) p4] scope .none kV doc pm an cdv ct), osl⟩ ∧ PySem.W.codeIn K cdv qual = true ∧ oc = .type "function" ∧
  (∀ u v, bindArgs (PySem.W.fnOf "__init__" qual params [.Assign [.Attribute (.Name "self" p1) f p2] (.Name y p3) p4] scope .none kV doc pm an cdv ct) ⟨[u, v], []⟩ = pure [(("self" : Str), u), (y, v)]) ∧
  scope.kind = .function ∧ scope.isCoroutine = false ∧ scope.isGenerator = false ∧ scope.names.lookup ("self" : Str) = some .local ∧ scope.names.lookup y = some .local ∧ ("self" : Str) ≠ y ∧ (y == ("__debug__" : Str)) = false
theorem refuseX (self : Value) (C : Addr) : refuseLoop self "__setattr__" (.ref C :: bmX) = pure () := by
 rw [refuseLoop_ref]
 kernel_rfl
section
variable {prog : Program} {w : World} {A : Around} {E : Value → Shared → Prop} {s : Shared} {K : PySem.W.Frag} {mg : Str → Option Value} {x f y qual : Str} {C fI e : Addr} {v : Value} {vs : Array Value} {sl : Array (Option Value)} {Q : Unit → Shared → Prop}
theorem setX (KX : K.In s.heap) (c : ExcI K mg x f y qual C fI) (he : s.heap.get? e = some ⟨.ref C, none, .fields vs, sl⟩)
  (hq : ∀ h', h'.Ns1 s.heap.objs.size (fun z => if z = f then some v else none) → h'.get? e = some ⟨.ref C, some s.heap.objs.size, .fields vs, sl⟩ → (∀ b o, b ≠ e → s.heap.get? b = some o → h'.get? b = some o) → Q () { s with heap := h', toks := s.toks + 2 }) :
  wpAny (model prog w) A (setAttr (.ref e) f v) Q E s := by
 obtain ⟨N, nm, q, bs, sn, sub, ab, col, dd, k0, k1, k2, k3, k5, hC, _⟩ := c.lk
 have J : PySem.W.InstAt s.heap e ⟨.ref C, none, .fields vs, sl⟩ C none := ⟨he, rfl, rfl, trivial⟩
 have hcl : PySem.W.clsIn K C = some { name := nm, bases := bs, mro := .ref C :: bmX, ns := N, qualname := q, hasDict := true, slotNames := sn, subclasses := sub, abstract := ab, collection := col, hasDel := false } := by
  unfold PySem.W.clsIn
  rw [hC]
 refine PySem.W.set_plain KX J c.sa ?_
 have SF := PySem.F.store_object
 have hm : PySem.W.Looks (model prog w) s.heap (mroOf (.ref C)) (.ref C :: bmX) := (PySem.W.looks_clsIn KX hcl).andThen .now
 have sub' : PySem.W.Looks (model prog w) s.heap (isInstance (.ref e) (.type "object")) true := J.type.andThen (PySem.W.looks_mroIn KX (by unfold PySem.W.mroIn; rw [hcl, Option.bind_some]; rfl))
 refine codeAny_call_builtin SF.slot.plain SF.entry (@PySem.W.check_slot (model prog w) _ _ { s with toks := s.toks + 1 } "object.__setattr__" "object" "__setattr__" (.ref e) [.str f s.toks, v] [] _ SF.kind SF.split sub' (SF.args (.ref e) (.str f s.toks) v) ?_)
 rw [PySem.W.osa_eq, refuse_eq]
 refine wpAny_bind (wpAny_bind (J.type.here (s := { s with toks := s.toks + 1 }) (wpAny_bind (hm.here (s := { s with toks := s.toks + 1 }) ?_))))
 rw [refuseX]
 refine wpAny_pure (wpAny_bind (J.type.here (s := { s with toks := s.toks + 1 }) (wpAny_bind ((PySem.W.looks_findIn KX c.no).here (s := { s with toks := s.toks + 1 }) (wpAny_bind (wpAny_pure ?_))))))
 have hx1 : (s.heap.push { cls := .type "dict", data := .dict #[] }).get? e = some ⟨.ref C, none, .fields vs, sl⟩ := Heap.get?_push_of_some _ he
 have hes : e ≠ s.heap.objs.size := Nat.ne_of_lt (Heap.lt_size he)
 refine wpAny_bind (wpAny_pure (wpAny_bind (wpAny_bind (wpAny_loadPart he (wpAny_bind ((PySem.W.looks_clsIn KX hcl).here (s := { s with toks := s.toks + 1 }) ?_))))))
 dsimp only
 rw [if_neg (by decide), if_neg (by simp [typeHasDict])]
 refine wpAny_bind (wpAny_alloc' (wpAny_bind (wpAny_update' hx1 (wpAny_pure ?_))))
 have g0 : ((s.heap.push { cls := .type "dict", data := .dict #[] }).update e fun o => { cls := o.cls, dict := some s.heap.objs.size, data := o.data, slots := o.slots }).get? s.heap.objs.size = some { cls := .type "dict", data := .dict #[] } :=
  (Heap.get?_update_other _ _ hes).trans (Heap.get?_push_at rfl rfl)
 have g1 := Heap.get?_update_self (fun o => { cls := o.cls, dict := some s.heap.objs.size, data := o.data, slots := o.slots }) hx1 rfl
 have n0 : ((s.heap.push { cls := .type "dict", data := .dict #[] }).update e fun o => { cls := o.cls, dict := some s.heap.objs.size, data := o.data, slots := o.slots }).Ns s.heap.objs.size (fun _ => none) := ⟨_, #[], _, g0, rfl, (fun z hz => absurd hz (by simp)), fun _ => rfl⟩
 refine wpAny_bind (wpAny_pure (wpAny_bind (wpAny_nsSet1 (Heap.Ns1.of_empty n0) fun h2 m2 sb => ?_)))
 obtain ⟨oD, esD, epD, hoD, hdD, hcD⟩ := m2.count (PySem.Within.cons f v PySem.Within.nil)
 refine wpAny_bind (wpAny_lookBehind hoD (by rw [hdD]; exact pastItsLine_dict (Nat.le_trans hcD (by rw [List.length_cons, List.length_nil, sizeLine_eq]; omega))) ?_)
 refine wpAny_pure (hq h2 m2 ((sb.2 e hes).trans g1) fun b o hb q => ?_)
 exact (sb.2 b (Nat.ne_of_lt (Heap.lt_size q))).trans ((Heap.get?_update_other _ _ (Ne.symm hb)).trans (Heap.get?_push_of_some _ q))
end
end L2
namespace L2
open PySem PySem.Spec PyProof.Rows
section
variable {P : Program} {w : World} {K : PySem.W.Frag} {mg : Str → Option Value} {base : Heap} {N : List Str} {qual : Str} {scope : Scope} {fA : Addr} {cd : Value} {A : Around} {outer : List Env} {s0 : Shared} {H0 : Hp} {E : XK}
theorem raiseG {pins : List (Addr × Obj)} {σ : St} {H : Hp} {s : Shared} {e C : Addr} {oe : Obj} {vs : Array Value} {a0 : Value} {dd : Option Addr} (I : Inv (cxOf (CXF P w) P w K mg base N qual scope fA cd A outer s0 H0 E) pins σ H s)
  (he : s.heap.get? e = some oe) (hcl : oe.cls = .ref C) (hd : oe.data = .fields vs) (h1 : vs[1]? = some .none) (h0 : vs[0]? = some a0) (hdd : oe.dict = dd) (hf2 : dd = none → fld2 oe = some .none) (hn : H e = none)
  (old : ∀ b o, s0.heap.get? b = some o → b ≠ e) (hE : E (.ref C) dd H) : (cxOf (CXF P w) P w K mg base N qual scope fA cd A outer s0 H0 E).xe (.ref e) s := by
 have bd := body_of (P := P) (w := w) (K := K) (mg := mg) (base := base) (N := N) (qual := qual) (scope := scope) (f := fA) (cd := cd) (A := A) (outer := outer) (s0 := s0) (H0 := H0) (E := E)
 have stk := I.stack
 have nx : ∀ b : Addr, b ∉ (cxOf (CXF P w) P w K mg base N qual scope fA cd A outer s0 H0 E).ex := fun b hb => by cases hb
 have hB : ∀ b o, s.heap.get? b = some o → b ≠ e → b ∉ frs (cxOf (CXF P w) P w K mg base N qual scope fA cd A outer s0 H0 E).stack → (PySem.W.hideAll s.heap (e :: frs (cxOf (CXF P w) P w K mg base N qual scope fA cd A outer s0 H0 E).stack)).get? b = some o :=
  fun b o q ne n => PySem.W.hideAll_get _ q fun z => (List.mem_cons.mp z).elim ne n
 have ff : s.heap.FunFrames (PySem.W.hideAll s.heap (e :: frs (cxOf (CXF P w) P w K mg base N qual scope fA cd A outer s0 H0 E).stack)) (envOfC qual scope s0.heap.objs.size fA cd :: outer) :=
  PySem.W.funFrames_hide stk fun env he b hb => List.mem_cons_of_mem _ (List.mem_filterMap.mpr ⟨env, he, hb⟩)
 have hen : (PySem.W.hideAll s.heap (e :: frs (cxOf (CXF P w) P w K mg base N qual scope fA cd A outer s0 H0 E).stack)).get? e = none := PySem.W.hideAll_none _ List.mem_cons_self
 have h1' : wpAny (model P w) (A.deeper (envOfC qual scope s0.heap.objs.size fA cd)) (leaving (envOfC qual scope s0.heap.objs.size fA cd) (.ref e))
   (fun _ s2 => ∃ h2, s2 = { s with heap := h2 } ∧ Heap.FlyingW (PySem.W.hideAll s.heap (e :: frs (cxOf (CXF P w) P w K mg base N qual scope fA cd A outer s0 H0 E).stack)) outer e (.ref C) a0 h2 ∧ s.heap.UpToSlots h2) (fun e' s'' => CXF P w outer H0 s0 E e' s'') s := by
  refine wpAny_leaving_firstW I.ok.frames ff rfl he (fun b o q => PySem.W.of_hideAll _ q) hen hd h1 h0 fun h' hL => ?_
  obtain ⟨k1, ⟨_, _, k2⟩, k3, k4⟩ := hL
  rw [hcl] at k3
  exact ⟨h', rfl, ⟨k1, hen, k2, k3⟩, k4⟩
 refine wpAny_mono (wpAny_dk (kd_leaving _ _) h1') (fun _ s2 ⟨⟨h2, e2, x1, x2⟩, dk⟩ => ?_) fun _ _ x => x
 subst e2
 refine ⟨e, C, dd, H, _, a0, rfl, fly_mk bd I hn (fun b o q n hb => hB b o (I.base.keep b o q n hb (nx b)) (old b o q) (bd.nofr I q hb)) (fun b o q => ?_) (fun b o q hb => ?_) x1 x2 ?_, hE⟩
 ·obtain ⟨ob, z⟩ := (I.hok b o q).there
  refine ⟨ob, hB b ob z (fun r => by rw [r, hn] at q; cases q) fun hm => ?_, z⟩
  have := I.stkFree b hm
  rw [q] at this
  cases this
 ·obtain ⟨o', e1⟩ := I.base.there b o q (nx b)
  exact ⟨o', hB b o' e1 (old b o q) (bd.nofr I q hb)⟩
 ·obtain ⟨o', e3, e4, e6⟩ := dk _ _ he
  exact ⟨o', e3, e4.trans hdd, fun z => e6.trans (hf2 z)⟩
end
theorem ns_some_of {K : PySem.W.Frag} {h : Heap} {m : Str → Option Value} {N : Addr} {n : Str} {v : Value} (X : K.In h) (G : h.Ns N m) (e : PySem.W.nsIn K N n = some (some v)) : m n = some v := by
 obtain ⟨o, es, ep, ho, hd, _, hf⟩ := G
 unfold PySem.W.nsIn at e
 split at e
 ·rename_i c d es' n' sl q
  have q' := X _ _ q
  rw [ho] at q'
  cases q'
  cases hd
  rw [← hf n]
  unfold nsFind findBy
  rw [← Array.find?_toList]
  split at e
  ·rename_i y z
   rw [z]
   exact Option.some.inj e
  ·split at e <;> cases e
 ·cases e
section
variable {P : Program} {w : World} {K : PySem.W.Frag} {mg : Str → Option Value} {base : Heap} {N : List Str} {qual : Str} {scope : Scope} {fA : Addr} {cd : Value} {A : Around} {outer : List Env} {s0 : Shared} {H0 : Hp} {E : XK}
theorem raiseX {pins : List (Addr × Obj)} {σ : St} {H : Hp} {s : Shared} {a1 C fI : Addr} {oe : Obj} {x f y q2 z : Str} {i k : Nat} {n : Int} {D : Ends} {j : Nat} {np vp cpos cp pos : Pos} (c : ExcI K mg x f y q2 C fI)
  (I : Inv ((cxOf (CXF P w) P w K mg base N qual scope fA cd A outer s0 H0 E).inH a1) ((a1, oe) :: pins) σ H s) (ok : (cxOf (CXF P w) P w K mg base N qual scope fA cd A outer s0 H0 E).Ok) (hf2 : fld2 oe = some .none) (hr : Room k (A.deeper (envOfC qual scope s0.heap.objs.size fA cd)))
  (hg : Gl (cxOf (CXF P w) P w K mg base N qual scope fA cd A outer s0 H0 E) x) (hN : N[i]? = some z) (hz : scope.names.lookup z = some .local) (hσ : σ[i]? = some (some (.int n)))
  (hE : ∀ d, H d = none → E (.ref C) (some d) (upd H d (.xd [(f, .int n)])))
  (hdb : (x == ("__debug__" : Str)) = false := by decide) (hdz : (z == ("__debug__" : Str)) = false := by decide) (hcz : (z == ("__classdict__" : Str)) = false := by decide) :
  wpAny (model P w) ((A.deeper (envOfC qual scope s0.heap.objs.size fA cd)).mark (some (.ref a1))) (exec (.Raise (some (.Call (.Name x np) [.Name z vp] [] cpos)) (some (.Constant .none j cp)) pos) (envOfC qual scope s0.heap.objs.size fA cd))
   (SP (cxOf (CXF P w) P w K mg base N qual scope fA cd A outer s0 H0 E) pins D) (cxOf (CXF P w) P w K mg base N qual scope fA cd A outer s0 H0 E).xe s := by
 obtain ⟨Ns, nm, q, bs, sn, sub, ab, col, dd, k0, k1, k2, k3, k5, hC, n1, n2, n3, n4, n5⟩ := c.lk
 obtain ⟨p1, p2, p3, p4, oc, od, an, kV, doc, pm, cdv, ct, osl, params, sc, lk, hcd, hoc, hbd, t1, t2, t3, t4, t5, t6, t7⟩ := c.fn
 have hbase : bmX.contains (.type "BaseException") = true := by decide +kernel
 obtain ⟨v1, hd1⟩ : ∃ vs1, oe.data = .fields vs1 := by
  unfold fld2 at hf2
  split at hf2
  ·rename_i vs e; exact ⟨vs, e⟩
  ·cases hf2
 have hd2 : v1[2]? = some .none := by
  unfold fld2 at hf2
  rw [hd1] at hf2
  exact hf2
 rw [arm_exec_Raise]
 refine wpAny_bind (wpAny_standAt ?_)
 refine raiseStmt_from_none (a1 := a1) (C := C) (nm := nm) (q := q) (N := Ns) (bs := bs) (bm := bmX) (hdct := true) (sn := sn) (sub := sub) (ab := ab) (col := col) (dd := dd) (k0 := k0) (k1 := k1) (k2 := k2) (k3 := k3) (k5 := k5) (newId := "Exception.__new__") hbase rfl (fun Q' s1 h => ?_) ?_
 ·exact wpAny_bind (Constant_none (wpAny_bind (wpAny_standAt (wpAny_pure h))))
 ·refine wpAny_bind (wpAny_mono (Q := fun v s₁ => ∃ e t o o1 vs1, v = .ref e ∧ s₁.heap.get? C = some (excClassObj nm q C Ns bs bmX true sn sub ab col dd k0 k1 k2 k3 k5 "Exception.__new__") ∧ C ≠ e ∧
   s₁.heap.get? e = some o ∧ o.cls = .ref C ∧ o.data = .fields #[.ref t, .none, .none, .none, .bool false, .none] ∧ s₁.heap.get? a1 = some o1 ∧ a1 ≠ e ∧ o1.data = .fields vs1 ∧ vs1[2]? = some .none ∧
   ∀ h', (∀ b, b ≠ e → h'.get? b = s₁.heap.get? b) → h'.get? e = some { o with data := .fields #[.ref t, .none, .ref a1, .none, .bool true, .none] } → (cxOf (CXF P w) P w K mg base N qual scope fA cd A outer s0 H0 E).xe (.ref e) { s₁ with heap := h' }) ?_ (fun v s3 h3 => wpAny_bind (wpAny_standAt (wpAny_pure h3))) fun _ _ x => x)
  refine wpAny_Call_Name_kw (ld_glob I hg c.mg ?_ hdb)
  have ha : PA ((cxOf (CXF P w) P w K mg base N qual scope fA cd A outer s0 H0 E).inH a1) [.Name z vp] (tCons (tVar i) tNil) := pa_cons (pe_var hN (Or.inl hz) hdz hcz) pa_nil
  refine PySem.W.callWith_K (h₀ := base) I.ok.mod.kin c.kp (thn (ha cpos _ s σ H (fun vs H1 => vs = [.int n] ∧ H1 = H) I ⟨_, hσ, rfl, rfl⟩) fun us s1 ⟨vs, H1, I1, r, q, qH⟩ => ⟨I1.kIn, ?_⟩) rfl rfl
  subst q; subst qH
  obtain ⟨u, rfl, ru⟩ := vals1 r
  obtain ⟨hh, g, dr, tk, os⟩ := s1
  have KX := I1.kIn
  refine wpAny_call_exc_init PySem.F.excBase_Exception (KX _ _ hC) (.of_isNs (PySem.W.isNs_of_in KX n1)) (ns_some_of KX (.of_isNs (PySem.W.isNs_of_in KX n1)) n2) (KX _ _ lk) hoc (fun h' e made => ?_) (by simp [sizeLine_eq])
  obtain ⟨t, m1, m2, m3⟩ := made.there
  have keep := made.keeps
  refine wpAny_call (init_call (K := K) (KX.keeps keep) (I1.nolimit.keeps keep) lk hcd ?_ (hbd _ _) t1 t2 t3 t4 t5 t6 t7 fun env h2 tk2 kp2 => ?_)
  ·rw [make_depth]
   have := hr.dp
   show (A.deeper (envOfC qual scope s0.heap.objs.size fA cd)).depth + 1 < recursionLimit
   omega
  ·refine setX (s := { heap := h2, gens := g, drawn := dr, toks := tk2, os := os }) ((KX.keeps keep).keeps kp2) c (kp2 _ _ m1) fun h3 x1 x2 x3 => ?_
   have ne : ∀ b o, hh.get? b = some o → b ≠ e := fun b o z r => by rw [r] at z; rw [made.new] at z; cases z
   have all : ∀ b o, hh.get? b = some o → h3.get? b = some o := fun b o z => x3 b o (ne b o z) (kp2 b o (keep b o z))
   refine ⟨rfl, e, t, _, oe, v1, rfl, all _ _ (KX _ _ hC), ne _ _ (KX _ _ hC), x2, rfl, rfl, all _ _ (I1.pin (a1, oe) (by simp)).1, ne _ _ (I1.pin (a1, oe) (by simp)).1, hd1, hd2, fun h4 y1 y2 => ?_⟩
   have all4 : ∀ b o, hh.get? b = some o → h4.get? b = some o := fun b o z => (y1 b (ne b o z)).trans (all b o z)
   have nd : hh.get? h2.objs.size = none := by
    cases z : hh.get? h2.objs.size with
    | none => rfl
    | some o => exact absurd (Heap.lt_size (kp2 _ _ (keep _ _ z))) (Nat.lt_irrefl _)
   have de : h2.objs.size ≠ e := Nat.ne_of_gt (Heap.lt_size (kp2 _ _ m1))
   have IX := I1.outH ok
   have trk : ∀ b u, H1 b = some u → ∃ ob, hh.get? b = some ob := fun b u z => (IX.hok b u z).there
   have Hd : H1 h2.objs.size = none := by
    cases z : H1 h2.objs.size with
    | none => rfl
    | some u =>
     obtain ⟨ob, z2⟩ := trk _ _ z
     rw [nd] at z2
     cases z2
   have He : H1 e = none := by
    cases z : H1 e with
    | none => rfl
    | some u =>
     obtain ⟨ob, z2⟩ := trk _ _ z
     exact absurd rfl (ne e ob z2)
   have bd : ∀ b o, hh.get? b = some o → b ≠ h2.objs.size := fun b o z r => by rw [r, nd] at z; cases z
   have bH : ∀ b u, H1 b = some u → b ≠ h2.objs.size := fun b u z r => by rw [r, Hd] at z; cases z
   have hok' : HOk P w (upd H1 h2.objs.size (.xd [(f, .int n)])) h4 := fun b u z => by
    by_cases hb : b = h2.objs.size
    ·rw [hb, upd_same] at z
     cases z
     rw [hb]
     obtain ⟨tt, rfl⟩ := (show ∃ tt, u = Value.int n tt from ru)
     refine ⟨_, x1.at fun o r => (y1 _ de).trans r, fun g' => ?_⟩
     show RelO (List.lookup g' [(f, V.int n)]) (if g' = f then some _ else none)
     by_cases hg' : g' = f
     ·rw [if_pos hg', hg']
      simp only [List.lookup_cons, beq_self_eq_true]
      exact ⟨tt, rfl⟩
     ·rw [if_neg hg']
      simp only [List.lookup_cons, List.lookup_nil, beq_eq_false_iff_ne.mpr hg']
      exact True.intro
    ·rw [upd_ne hb] at z
     refine (IX.hok b u z).stay (fun c' v' _ r => all4 c' v' r) (fun c' r => by rw [upd_ne (bH c' _ r)]; exact r) fun c' xs' r => by rw [upd_ne (bH c' _ r)]; exact r
   have un : Un (cxOf (CXF P w) P w K mg base N qual scope fA cd A outer s0 H0 E).fs [] H1 (upd H1 h2.objs.size (.xd [(f, .int n)])) hh h4 :=
    ⟨fun b o z _ _ _ => all4 b o z, fun b o z _ _ _ => ⟨o.slots, all4 b o z⟩, fun b o z nn _ => by rw [upd_ne (bd b o z)]; exact nn, fun b o z _ => ⟨o, all4 b o z⟩, fun b xs' z => by rw [upd_ne (bH b _ z)]; exact z,
     fun b o u' z => by rw [upd_ne (bH b _ z)]; exact z, fun b ps z => ⟨#[], by rw [upd_ne (bH b _ z), z]; simp⟩⟩
   have I4 := IX.un (t' := tk2 + 2) un hok'
   refine raiseG I4 y2 rfl rfl rfl rfl rfl (fun z => nomatch z) (by rw [upd_ne (Ne.symm de)]; exact He) (fun b o z => ?_) (hE _ Hd)
   obtain ⟨o', z2⟩ := IX.base.there b o z (fun r => by cases r)
   exact ne b o' z2
end
end L2
namespace L2
open PySem PySem.Spec PyProof.Rows
def PEx (X : Cx) (E : St → XK) (e : Expr) (t : TE) : Prop :=
 ∀ (pins : List (Addr × Obj)) (s : Shared) (σ : St) (H : Hp) (Q : VK), Inv X pins σ H s → t σ H Q →
  wpAny (model X.prog X.w) X.A (eval e X.env) (EP X pins σ Q) (fun e' s' => ∃ H1 s1, Inv X pins σ H1 s1 ∧ CXF X.prog X.w X.stack H1 s1 (E σ) e' s') s
def PAx (X : Cx) (E : St → XK) (es : List Expr) (t : TA) : Prop :=
 ∀ (pos : Pos) (pins : List (Addr × Obj)) (s : Shared) (σ : St) (H : Hp) (Q : List V → Hp → Prop), Inv X pins σ H s → t σ H Q →
  wpAny (model X.prog X.w) X.A (spliced (backTo pos (starEach es X.env))) (AP X pins σ Q) (fun e' s' => ∃ H1 s1, Inv X pins σ H1 s1 ∧ CXF X.prog X.w X.stack H1 s1 (E σ) e' s') s
section
variable {X : Cx} {E : St → XK} {e : Expr} {es : List Expr} {te : TE} {t : TA}
theorem px_of (h : PE X.nox e te) : PEx X E e te := fun pins s σ H Q I hw =>
 wpAny_mono (h pins s σ H Q (I.wish _) hw) (fun _ _ ⟨v, H', I', r, q⟩ => ⟨v, H', I'.unwish, r, q⟩) fun _ _ z => False.elim z
theorem pax_nil : PAx X E [] tNil := fun _ _ _ _ H Q I h => Calls.spliced_nil ⟨[], H, I, .nil, h⟩
theorem pax_cons (ha : PEx X E e te) (hr : PAx X E es t) (hs : starEach (e :: es) X.env = (false, eval e X.env) :: starEach es X.env := by rfl) : PAx X E (e :: es) (tCons te t) := by
 intro pos pins s σ H Q I h
 rw [hs]
 refine Calls.spliced_cons (thn (ha pins s σ H _ I h) fun u s1 ⟨x, H1, I1, r1, q1⟩ => ?_)
 exact thn (hr pos pins s1 σ H1 _ I1 q1) fun us s2 ⟨xs, H2, I2, r2, q2⟩ => ⟨x :: xs, H2, I2, .cons r1 r2, q2⟩
theorem px_call {k : Nat} {f : Addr} {fd : FuncData} {ps : List Str} {sp : Sp} {x : Str} {p pos : Pos} (F : FnOk X.prog X.w X.K X.mg X.base (CXF X.prog X.w) k f fd ps sp) (hr : Room k X.A) (hg : Gl X x) (hm : X.mg x = some (.ref f)) (hk : PySem.W.keepIn X.K (.ref f) = true) (hb : Binds X.K fd ps [])
  (ha : PAx X E (e :: es) t) (hdb : (x == ("__debug__" : Str)) = false := by decide) (he : starEach (e :: es) X.env = (false, eval e X.env) :: starEach es X.env := by rfl) (hpl : (backTo pos (starEach es X.env)).any (·.1) = false := by rfl) :
  PEx X E (.Call (.Name x p) (e :: es) [] pos) (fun σ H Q => t σ H fun vs H1 => sp vs H1 Q (E σ)) := by
 intro pins s σ H Q I h
 refine wpAny_Call_Name_kw (ld_glob I hg hm ?_ hdb)
 refine PySem.W.callWith_K (h₀ := X.base) I.ok.mod.kin hk (thn (ha pos pins s σ H _ I h) fun us s1 ⟨vs, H1, I1, r, q⟩ => ⟨I1.kIn, ?_⟩) he hpl
 have hl : us.length = ps.length := by rw [← r.length]; exact F.len _ _ _ _ q
 have hbt := hb s1 us I1.kIn (by rw [List.append_nil]; exact hl)
 rw [List.append_nil] at hbt
 refine wpAny_call (codeAny_mono (F.run X.A X.stack s1 H1 ⟨us, []⟩ us vs Q (E σ) hr I1.env0 hbt r q) fun rr s' hq => ?_)
 cases rr with
 | error e => exact ⟨H1, s1, I1, hq⟩
 | ok fl =>
  cases fl with
  | ret u => exact I1.after hq
  | next => exact False.elim hq
  | brk => exact False.elim hq
  | cont => exact False.elim hq
end
def PHx (X : Cx) (C : Addr) (suite : List Stmt) (th : TS) : Prop := ∀ (pins : List (Addr × Obj)) (σ : St) (H : Hp) (s : Shared) (a : Addr) (oe : Obj) (D : Ends), X.Ok → Inv (X.inH a) ((a, oe) :: pins) σ H s → oe.cls = .ref C → fld2 oe = some .none → th D σ H →
 wpAny (model X.prog X.w) (X.A.mark (some (.ref a))) (execs suite X.env) (SP X pins D) X.xe s
def tTryE (C : Addr) (tb : (St → XK) → Ends → TE) (th : TS) : TS := fun D σ H => tb (fun σ' cv d H' => cv = .ref C ∧ d = none ∧ th D σ' H') D σ H (fun _ H1 => D.nx σ H1)
theorem ps_tryE {X : Cx} {C : Addr} {x : Str} {np hpos pos epos : Pos} {e : Expr} {b0 : Stmt} {suite : List Stmt} {tb : (St → XK) → TE} {th : TS} (bd : X.Body) (c : XCl X.K X.mg x C) (hg : Gl X x)
  (hE : ∀ a, PassesOwnAt (model X.prog X.w) (X.A.mark (some (.ref a))) X.A X.env X.xe)
  (hb : ∀ E' : St → XK, PEx X E' e (tb E')) (hs : PHx X C (b0 :: suite) th) (hsw : swapsWith e none epos.line X.env = pure false := by rfl) (hdb : (x == ("__debug__" : Str)) = false := by decide) :
  PS X (.Try [.Expr e epos] [.ExceptHandler (some (.Name x np)) none (b0 :: suite) hpos] [] [] pos) (tTryE C (fun E' _ => tb E') th) := by
 intro pins s σ H D I h
 have ok := I.ok
 refine wpAny_Try_except (wpAny_execs_cons ?_)
 refine wpAny_Expr_any (wpAny_mono (hb _ pins s σ H _ I h) (fun v s1 ⟨x1, H1, I1, r1, q1⟩ => ?_) fun e' s1 q => ?_) I.quiet hsw
 ·exact wpAny_execs_nil (wpAny_execs_nil ⟨σ, H1, I1, q1⟩)
 ·obtain ⟨H1, s2, I1, a, C', d, H', B, a0, rfl, f, e1, e2, q⟩ := q
  cases e1
  subst e2
  refine land bd ok f fun s3 f3 => clause0 c hg I1 f3 (fun s4 f4 => ?_) (hE a) hdb
  obtain ⟨oe, I4, o1, o2, o3, _⟩ := f4.pin bd I1
  exact hs pins _ H' s4 a oe D ok (I4.inH a) o1 (o3 rfl) q
end L2
namespace L2
open PySem PySem.Spec PyProof.Rows
section
variable {X : Cx} {pins : List (Addr × Obj)} {σ : St} {H : Hp} {s : Shared}
theorem Inv.frame {h' : Heap} {m' : Str → Option Value} {t' : Nat} (I : Inv X pins σ H s) (hn : h'.Ns X.env.locals m') (sb : Heap.SameBut X.env.locals s.heap h') : Inv X pins (List.replicate X.N.length none) H { s with heap := h', toks := t' } := by
 have nl : ∀ b o, X.s_0.heap.get? b = some o → b ≠ X.env.locals := fun b o e => Nat.ne_of_lt (Nat.lt_of_lt_of_le (Heap.lt_size e) I.ok.above)
 refine ⟨I.ok, I.os, I.bare, ⟨fun b o e n hb hx => (sb.2 b (nl b o e)).trans (I.base.keep b o e n hb hx), fun b o e n hb hx => ?_, I.base.free, fun b o e hx => ?_, I.base.tups, I.base.frzs, I.base.tbls⟩, ⟨_, hn, fun i y v e1 e2 e3 => ?_⟩, fun y c e => ?_, I.free, I.freeC, fun p hp => ?_, fun b ob e => ?_, List.length_replicate⟩
 ·obtain ⟨sl, e1⟩ := I.base.slot b o e n hb hx
  exact ⟨sl, (sb.2 b (nl b o e)).trans e1⟩
 ·obtain ⟨o', e1⟩ := I.base.there b o e hx
  exact ⟨o', (sb.2 b (nl b o e)).trans e1⟩
 ·rw [List.getElem?_replicate] at e2
  split at e2 <;> cases e2
 ·obtain ⟨w', z⟩ := I.cell y c e
  exact ⟨w', z.sameBut sb (I.cne y c e)⟩
 ·obtain ⟨e, n, ne, nf, d⟩ := I.pin p hp
  exact ⟨(sb.2 p.1 ne).trans e, n, ne, nf, d⟩
 ·refine (I.hok b ob e).stay (fun c w' hc q => (sb.2 c ?_).trans q) (fun _ q => q) fun _ _ q => q
  rintro rfl
  have := I.free
  rcases hc with z | hc
  ·rw [← z, this] at e; cases e
  ·rw [this] at hc; cases hc
end
def tXf (a : Addr) (dd : Option Addr) (ta : TE) (f : Str) : TE := fun σ H Q => ta σ H fun x H1 => ∃ d fs n, x = .ref a ∧ dd = some d ∧ H1 d = some (.xd fs) ∧ fs.lookup f = some (.int n) ∧ Q (.int n) H1
theorem pe_xf {X : Cx} {a C fI : Addr} {oe : Obj} {vs : Array Value} {x f y q : Str} {e : Expr} {ta : TE} {pos : Pos} (c : ExcI X.K X.mg x f y q C fI) (hp : (a, oe) ∈ X.pn) (hcl : oe.cls = .ref C) (hdat : oe.data = .fields vs)
  (he : PE X e ta) (hb : attributeBase e f X.env (eval e X.env) = eval e X.env) : PE X (.Attribute e f pos) (tXf a oe.dict ta f) := by
 intro pins s σ H Q I h
 obtain ⟨Ns, nm, q', bs, sn, sub, ab, col, dd, k0, k1, k2, k3, k5, hC, n1, n2, n3, n4, n5⟩ := c.lk
 refine attr_of hb (thn (he pins s σ H _ I h) fun u s1 ⟨x1, H1, I1, rx, d, fs, n, ex, ed, hd, hl, q⟩ => ?_)
 subst ex
 obtain rfl : u = Value.ref a := rx
 have KX := I1.kIn
 have pin := I1.pin (a, oe) (List.mem_append_left _ hp)
 obtain ⟨mA, hN, hr⟩ := (show ∃ mA, s1.heap.Ns1 d mA ∧ ∀ g, RelO (fs.lookup g) (mA g) from I1.hok d _ hd)
 have hr' := hr f
 rw [hl] at hr'
 obtain ⟨u, hu, ru⟩ := RelO.some_of hr'
 obtain ⟨tt, rfl⟩ := (show ∃ tt, u = Value.int n tt from ru)
 have ne : d ≠ a := ne_of_none hd pin.2.1
 obtain ⟨hh, g, dr, tk, os⟩ := s1
 exact loadX_attr (KX _ _ hC) (.of_isNs (PySem.W.isNs_of_in KX n1)) (PySem.W.nsMap_none_of_in KX n1 n4) (PySem.W.nsMap_none_of_in KX n1 n5) (PySem.W.nsMap_none_of_in KX n1 n3) c.tl
  ⟨oe, pin.1, hcl, (fun cc z => by rw [hdat] at z; cases z), .inr ⟨d, ed, ne, hN⟩⟩ hu (fun id z => by cases z) ⟨.int n, H1, I1.tok _, ⟨tt, rfl⟩, q⟩
theorem ExcI.xcl {K : PySem.W.Frag} {mg : Str → Option Value} {x f y q : Str} {C fI : Addr} (c : ExcI K mg x f y q C fI) : XCl K mg x C := ⟨c.mg, fun h KX => by
 obtain ⟨Ns, nm, q', bs, sn, sub, ab, col, dd, k0, k1, k2, k3, k5, hC, _⟩ := c.lk
 exact ⟨bmX, Ns, nm, q', bs, true, sn, sub, ab, col, dd, k0, k1, k2, k3, k5, KX _ _ hC, by decide +kernel⟩⟩
def tTryAs (n ie : Nat) (C : Addr) (tb : XK → TS) (th : Addr → Option Addr → TS) : TS := fun D σ H => tb (fun cv d H' => cv = .ref C ∧ ∀ a, th a d { nx := fun _ _ => False, rt := D.rt } ((List.replicate n none).set ie (some (.ref a))) H') D σ H
theorem ps_tryAs {X : Cx} {C : Addr} {x n : Str} {ie : Nat} {np hpos pos : Pos} {body : List Stmt} {b0 : Stmt} {suite : List Stmt} {tb : XK → TS} {th : Addr → Option Addr → TS} (bd : X.Body) (c : XCl X.K X.mg x C) (hg : Gl X x)
  (hN : X.N.Nodup) (hi : X.N[ie]? = some n) (hl : X.env.scope.names.lookup n = some .local)
  (hb : ∀ (xe : Value → Shared → Prop) (pn : List (Addr × Obj)) (E' : XK), Passes (CXF X.prog X.w) (X.with2 xe pn) E' → PSs (X.with2 xe pn) body (tb E'))
  (hs : ∀ (pn : List (Addr × Obj)) (a : Addr) (oe : Obj) (vs : Array Value), (a, oe) ∈ pn → oe.cls = .ref C → oe.data = .fields vs → PSs ((X.inH a).with2 (fun _ _ => False) pn) (b0 :: suite) (th a oe.dict)) (hdb : (x == ("__debug__" : Str)) = false := by decide) :
  PS X (.Try body [.ExceptHandler (some (.Name x np)) (some n) (b0 :: suite) hpos] [] [] pos) (tTryAs X.N.length ie C tb th) := by
 intro pins s σ H D I h
 have ok := I.ok
 refine wpAny_Try_except ?_
 have hp : Passes (CXF X.prog X.w) (X.with2 (fun e s' => ∃ ps σ' H1 s1, Inv X (pins ++ ps) σ' H1 s1 ∧ CXF X.prog X.w X.stack H1 s1 (fun cv d H' => cv = .ref C ∧ ∀ a, th a d { nx := fun _ _ => False, rt := D.rt } ((List.replicate X.N.length none).set ie (some (.ref a))) H') e s') (X.pn ++ pins)) (fun cv d H' => cv = .ref C ∧ ∀ a, th a d { nx := fun _ _ => False, rt := D.rt } ((List.replicate X.N.length none).set ie (some (.ref a))) H') :=
  fun ps σ' H1 s1 e s' I1 q => ⟨ps, σ', H1, s1, I1.un2 ok, q⟩
 refine wpAny_mono (hb _ _ _ hp [] s σ H D (I.with2 _) h) (fun f s1 q => ?_) fun e s1 q => ?_
 ·have q' := q.un20 ok
  cases f with
  | next => exact wpAny_execs_nil q'
  | ret v => exact q'
  | brk => exact q'
  | cont => exact q'
 ·obtain ⟨ps, σ', H1, s2, I1, a, C', d, H', B, a0, rfl, f, e1, q⟩ := q
  cases e1
  have I2 := I1.firstP.blank
  refine land bd ok f fun s3 f3 => ?_
  have If := f3.inv I2
  refine wpAny_handleBy_cons (codeAny_handlers_test (ld_glob (If.inH a) hg c.mg ?_ hdb)) (by intro q; cases q)
  obtain ⟨bm, N, nm, q0, bs, hdct, sn, sub, ab, col, dd, k0, k1, k2, k3, k5, hC, hB⟩ := c.ob s3.heap If.kIn
  obtain ⟨oe, he, hcls⟩ := f3.fl.there
  obtain ⟨hh, g, dr, tk, os⟩ := s3
  refine wpAny_excMatches_sub_self hC he hcls hB (codeAny_handlers_suite_as ?_)
  have h3 : wpAny (model X.prog X.w) (X.A.mark (some (.ref a))) (setFlight (.ref a) none) (fun _ s3 => ∃ h5, s3 = { (⟨hh, g, dr, tk, os⟩ : Shared) with heap := h5 } ∧ Heap.FlyingW B X.stack a (.ref C) a0 h5 ∧ hh.UpToSlots h5)
    (fun _ _ => False) ⟨hh, g, dr, tk, os⟩ := lands_againW f3.fl fun h5 y1 y2 => ⟨h5, rfl, y1, y2⟩
  refine wpAny_mono (wpAny_dk (kd_flight _ _) h3) (fun _ s4 ⟨⟨h5, e3, y1, y2⟩, dk2⟩ => ?_) fun _ _ x => x.elim
  subst e3
  have f4 := f3.move y1 y2 dk2
  obtain ⟨oe, I4, o1, o2, o3, vs, o4⟩ := f4.pin bd I2
  refine store_ok I4 hN hi (Or.inl hl) (v := .ref a) rfl (fun s5 I5 => ?_) (Or.inr hl)
  have q5 := q a
  rw [← o2] at q5
  have I6 := (I5.inH a).with2 (fun _ _ => False)
  refine wpAny_mono (hs _ a oe vs (List.mem_append_right _ List.mem_cons_self) o1 o4 [] s5 _ H' _ I6 q5) (fun fl s6 z => ?_) fun _ _ z => z.elim
  have z' := SP.un20 (X := X.inH a) (pins := (a, oe) :: pins) (ok.inH a) z
  cases fl with
  | ret u =>
   obtain ⟨v, σ7, H7, I7, rv, qv⟩ := z'
   obtain ⟨m, hn, _⟩ := id I7.loc
   refine wpAny_nameGoes hl hn (by show (X.env.scope.kind == .class || (X.env.scope.kind == .module && X.env.locals != X.env.globals)) = false; rw [ok.kind]; rfl) fun h8 m8 hn8 sb8 => ?_
   exact ⟨v, _, H7, ((I7.outH ok).lessP).frame (t' := s6.toks + 1) hn8 sb8, rv, qv⟩
  | next => obtain ⟨_, _, _, z⟩ := z'; exact z.elim
  | brk => obtain ⟨_, _, _, z⟩ := z'; exact z.elim
  | cont => obtain ⟨_, _, _, z⟩ := z'; exact z.elim
end L2
namespace L2
open PySem PySem.Spec PyProof.Rows
open AutoSeq1 (wpAny_loadPart')
theorem meets_enumK (l : Addr) (items : Array Value) (n : Nat) (dct : Option Addr) (sl : Array (Option Value)) (tt : Tok) :
  Meets (Builtin.«enumerate.__new__» ⟨[.type "enumerate", .ref l], [("start", .int 1 tt)]⟩) (fun _ R s => s.heap.get? l = some { cls := .type "list", dict := dct, data := .seq items n, slots := sl } ∧
   R (.ok (.ret (.ref (s.heap.push { cls := .type "list_iterator", data := .fields #[.ref l, .int 0 0] }).objs.size)))
    { s with heap := (s.heap.push { cls := .type "list_iterator", data := .fields #[.ref l, .int 0 0] }).push { cls := .type "enumerate", data := .fields #[.none, .bool false, .ref s.heap.objs.size, rawInt 1, .none, .none] } }) :=
 .of_wp fun prog w A R s h => by
  obtain ⟨hp, g, d, tk, os⟩ := s; obtain ⟨hl, h⟩ := h
  have hsub := sub_enumerate
  have hL : Heap.IsList (Shared.heap ⟨hp, g, d, tk, os⟩) l items := ⟨_, hl, rfl, n, rfl⟩
  wp_walk using wpAny_loadPart' hl
  refine wpAny_stack_any fun st => wpAny_pure ?_
  split
  ·rename_i c _ _ _ _ _
   cases (c == Value.type "enumerate") <;> (wp_walk using wpAny_loadPart' hl, wpAny_pyIter_list hL)
   all_goals exact ⟨_, rfl, h⟩
  ·(wp_walk using wpAny_loadPart' hl, wpAny_pyIter_list hL); exact ⟨_, rfl, h⟩
def enR (s : Shared) (h2 : Heap) (v : Value) : Result → Shared → Prop := fun r s1 => r = .ok (.ret v) ∧ s1 = { s with heap := h2 }
section
variable {prog : Program} {w : World} {A : Around} {E : Value → Shared → Prop} {s : Shared}
theorem typeCall_enumK (a : Value) (v : Value) : checkTypeCall "enumerate" ⟨[a], [("start", v)]⟩ = pure () := by kernel_rfl
theorem newCall_enumK (a : Value) (v : Value) : checkBuiltinCall "enumerate.__new__" ⟨[.type "enumerate", a], [("start", v)]⟩ = pure () := by kernel_rfl
theorem argsInit_enumK (o a : Value) (v : Value) : argsOk "object.__init__" ⟨[o, a], [("start", v)]⟩ := by unfold argsOk; kernel_rfl
set_option maxHeartbeats 4000000 in
theorem call_enumK {l : Addr} {items : Array Value} {tt : Tok} {Q : Value → Shared → Prop} (hL : s.heap.IsList l items)
  (h : ∀ h', IsEnum h' (s.heap.objs.size + 1) s.heap.objs.size 1 .none → h'.IsListIter s.heap.objs.size l 0 → (∀ b o, s.heap.get? b = some o → h'.get? b = some o) → Q (.ref (s.heap.objs.size + 1)) { s with heap := h' }) :
  wpAny (model prog w) A (call (.type "enumerate") [.ref l] [("start", .int 1 tt)]) Q E s := by
 obtain ⟨⟨c, dct, dt, sl⟩, hl, hc, n, hd⟩ := hL
 simp only at hc hd
 subst hc; subst hd
 have ft := F.called_enumerate
 obtain ⟨c, tl, hmro⟩ := ft.mro
 have hmade := ft.made
 have hsub := ft.sub
 refine wpAny_call (codeAny_of_tree ?_)
 show wpAny _ _ (callAny (.type "enumerate") ⟨[.ref l], [("start", .int 1 tt)]⟩) _ _ _
 refine wpAny_pure ⟨Code.quiet_builtin _ (by decide +kernel), codeAny_builtin F.entry_type_call ?_⟩
 rw [Around.under_plain (weight_type_call_type "enumerate" [.ref l] [("start", .int 1 tt)]) (units_type_call_type "enumerate" [.ref l] [("start", .int 1 tt)])]
 have h1 := ft.notType
 have h2 := ft.canCreate
 have h3 := typeCall_enumK (.ref l) (.int 1 tt)
 repeat (any_goals (first | assumption | wp_step))
 have hz : (s.heap.push { cls := .type "list_iterator", data := .fields #[.ref l, .int 0 0] }).objs.size = s.heap.objs.size + 1 := Heap.size_push ..
 have he : IsEnum ((s.heap.push { cls := .type "list_iterator", data := .fields #[.ref l, .int 0 0] }).push { cls := .type "enumerate", data := .fields #[.none, .bool false, .ref s.heap.objs.size, rawInt 1, .none, .none] }) (s.heap.objs.size + 1) s.heap.objs.size 1 .none := by
  have := Heap.get?_push_size (s.heap.push { cls := .type "list_iterator", data := .fields #[.ref l, .int 0 0] }) (o := { cls := .type "enumerate", data := .fields #[.none, .bool false, .ref s.heap.objs.size, rawInt 1, .none, .none] }) rfl
  rw [hz] at this
  exact this
 have key := meets_enumK l items n dct sl tt prog w A.in1 (enR s ((s.heap.push { cls := .type "list_iterator", data := .fields #[.ref l, .int 0 0] }).push { cls := .type "enumerate", data := .fields #[.none, .bool false, .ref s.heap.objs.size, rawInt 1, .none, .none] }) (.ref (s.heap.objs.size + 1))) s ⟨hl, by rw [hz], rfl⟩
 have key2 := codeAny_call_builtin (R := enR s ((s.heap.push { cls := .type "list_iterator", data := .fields #[.ref l, .int 0 0] }).push { cls := .type "enumerate", data := .fields #[.none, .bool false, .ref s.heap.objs.size, rawInt 1, .none, .none] }) (.ref (s.heap.objs.size + 1))) ft.plain F.entry_enumerate_new (wpAny_of_eq (newCall_enumK (.ref l) (.int 1 tt)) key)
 refine codeAny_mono key2 fun r s1 hr => ?_
 obtain ⟨rfl, rfl⟩ := hr
 have hT : ({ s with heap := (s.heap.push { cls := .type "list_iterator", data := .fields #[.ref l, .int 0 0] }).push { cls := .type "enumerate", data := .fields #[.none, .bool false, .ref s.heap.objs.size, rawInt 1, .none, .none] } } : Shared).TypeIs (.ref (s.heap.objs.size + 1)) "enumerate" := ⟨_, he, rfl⟩
 have hli := ft.init.lookup
 have hbi := ft.init.bind (.ref (s.heap.objs.size + 1))
 dsimp only
 repeat (any_goals (first | assumption | wp_step))
 refine codeAny_mono (codeAny_call_builtin (R := enR s ((s.heap.push { cls := .type "list_iterator", data := .fields #[.ref l, .int 0 0] }).push { cls := .type "enumerate", data := .fields #[.none, .bool false, .ref s.heap.objs.size, rawInt 1, .none, .none] }) .none) ft.init.plain F.entry_object_init
  (ft.init.check _ _ _ _ _ _ _ _ hT (argsInit_enumK _ _ _) ?_)) fun r s2 hr => ?_
 ·have hne : (some "enumerate.__new__" != some "object.__new__") = true := by decide
  repeat (any_goals (first | assumption | wp_step))
  exact ⟨rfl, rfl⟩
 ·obtain ⟨rfl, rfl⟩ := hr
  dsimp only
  repeat (any_goals (first | assumption | wp_step))
  refine h _ he ?_ fun b o q => Heap.get?_push_of_some _ (Heap.get?_push_of_some _ q)
  exact ⟨_, Heap.get?_push_of_some _ (Heap.get?_push_size _ rfl), rfl, rfl⟩
end
end L2
namespace L2
open PySem PySem.Spec PyProof.Rows
theorem draws1 {prog : Program} {w : World} {A : Around} (hh : A.handled = none) (it l : Addr) (hne : l ≠ it) (items : Array Value) :
  Draws prog w A it [it, l] (items.size + 1) (fun j v => 1 ≤ j ∧ items[j - 1]? = some v) (fun j h => 1 ≤ j ∧ h.IsListIter it l (j - 1) ∧ h.IsList l items) := by
 have D := Draws.list (prog := prog) (w := w) hh it l hne items
 refine ⟨fun j h st => D.live (j - 1) h st.2, fun j h h' st k => ⟨st.1, D.frame (j - 1) h h' st.2 k⟩, fun j s Q E hj st k => ?_, fun s Q E st k => ?_⟩
 ·obtain ⟨h1, st⟩ := st
  refine D.item (j - 1) s Q E (by omega) st fun x h' tk p st' sb => k x h' tk ⟨h1, p⟩ ⟨by omega, ?_⟩ sb
  have e : j - 1 + 1 = j + 1 - 1 := by omega
  rw [← e]
  exact st'
 ·exact D.done s Q E st.2 k
def It1 (K : PySem.W.Frag) (a : Addr) : It :=
 ⟨fun i H => ∃ (xs : List V) (x : V), SqL K H a xs ∧ xs[i]? = some x, fun i H v H' => ∃ T x, v = .ref T ∧ H T = none ∧ H' = upd H T (.tup [.int ((i + 1 : Nat) : Int), x]) ∧ ∀ xs, SqL K H a xs → xs[i]? = some x, fun i H => ∃ xs : List V, SqL K H a xs ∧ xs.length ≤ i⟩
theorem turn_enumK {P : Program} {w : World} {K : PySem.W.Frag} {elts : List Expr} {kk : Nat} {tpos : Pos} (a e it : Addr) :
  Turn P w K (.Tuple elts kk tpos) (It1 K a) [e, it] e (fun i h => (∃ old, IsEnum h e it ((i + 1 : Nat) : Int) old) ∧ h.IsListIter it a i ∧ e ≠ it) where
 mem := by simp
 obj := fun i h st b hb => by
  obtain ⟨⟨old, he⟩, ⟨o, ho, hc, hd⟩, _⟩ := st
  rcases List.mem_cons.mp hb with z | z
  ·rw [z]; exact ⟨_, he, fun v q => nomatch q⟩
  ·rw [List.mem_singleton.mp z]; exact ⟨o, ho, fun v q => by rw [hd] at q; cases q⟩
 keep := fun i h h' ⟨⟨old, he⟩, hi, hne⟩ k => ⟨⟨old, k e (by simp) _ he⟩, hi.at fun o q => k it (by simp) o q, hne⟩
 item := by
  intro X hP hw hK hc i pins s σ H E I hf st hg
  subst hP; subst hw; subst hK
  obtain ⟨⟨old, he⟩, hit, hne⟩ := st
  obtain ⟨xs, x, hq, hx⟩ := hg
  obtain ⟨its, rv, p, hz⟩ := I.list hq
  obtain ⟨u, hu, ru⟩ := rv.get hx
  have hel : e < s.heap.objs.size := Heap.lt_size he
  have hil : it < s.heap.objs.size := by obtain ⟨_, q, _⟩ := hit; exact Heap.lt_size q
  obtain ⟨ol, hol, hcl, nl, hdl⟩ := id p.isList
  have nli : a ≠ it := fun z => by
   obtain ⟨oi, hoi, hci, hdi⟩ := hit
   rw [← z, hol] at hoi
   cases hoi
   rw [hdl] at hdi
   cases hdi
  have nle : e ≠ a := fun z => by
   have q : s.heap.get? e = _ := he
   rw [z, hol] at q
   cases q
   cases hdl
  have D := draws1 (prog := X.prog) (w := X.w) (A := X.A.in1) (I.ok.hd hc) it a nli its.toArray
  have hlt : i < its.length := by rw [← rv.length]; exact (List.getElem?_eq_some_iff.mp hx).1
  refine wpAny_pyNext_enum_itemD (i := i + 1) D he ⟨by omega, hit, p.isList⟩ (by simpa using hlt) hne (by simp [hne, nle]) fun x1 h' tk px ho st' hT hsz hk => ?_
  have ex : x1 = u := by
   have h2 := px.2
   rw [Nat.add_sub_cancel] at h2
   have h3 : its[i]? = some x1 := by simpa using h2
   rw [hu] at h3
   exact (Option.some.inj h3).symm
  subst ex
  refine ⟨_, rfl, wpAny_letOwnedTupleGo_enum (s := { s with heap := h', toks := tk + 1 }) ho fun h'' he' sb => ?_⟩
  have hT2 : h''.get? s.heap.objs.size = some { cls := .type "tuple", data := .seq #[.int ((i + 1 : Nat) : Int) tk, x1] } := (sb.2 _ (Nat.ne_of_gt hel)).trans hT
  have new : ObjOk X.prog X.w (upd H s.heap.objs.size (.tup [.int ((i + 1 : Nat) : Int), x])) h'' s.heap.objs.size (.tup [.int ((i + 1 : Nat) : Int), x]) :=
   ⟨by show 2 ≤ sizeLine; decide, [.int ((i + 1 : Nat) : Int) tk, x1], .cons ⟨_, rfl⟩ (.cons ru .nil), ⟨_, hT2, rfl, _, rfl⟩⟩
  have I1 : Inv X pins σ (upd H s.heap.objs.size (.tup [.int ((i + 1 : Nat) : Int), x])) { s with heap := h'', toks := tk + 1 } :=
   I.turnedNew (ch := [e, it]) (fun b ob hb q => (sb.2 b (fun z => hb (by simp [z]))).trans (hk b ob (fun z => hb (by simp [z])) (fun z => hb (by simp [z])) q)) hf (Nat.le_refl _) new
  refine ⟨.ref s.heap.objs.size, _, I1, rfl, ⟨_, x, rfl, I.hok.fresh (Nat.le_refl _), rfl, fun ys hy => by rw [I.list_inj hy hq]; exact hx⟩, ⟨⟨x1, ?_⟩, ?_, hne⟩, fun b hb => ?_⟩
  ·have e1 : ((i + 1 + 1 : Nat) : Int) = ((i + 1 : Nat) : Int) + 1 := by omega
   rw [e1]; exact he'
  ·have st2 := st'.2.1
   rw [Nat.add_sub_cancel] at st2
   exact st2.at fun o q => (sb.2 it (Ne.symm hne)).trans q
  ·have hb' : b < s.heap.objs.size := by
    rcases List.mem_cons.mp hb with z | z
    ·rw [z]; exact hel
    ·rw [List.mem_singleton.mp z]; exact hil
   rw [upd_ne (Nat.ne_of_lt hb')]
   exact (hf b hb).1
 done := by
  intro X hP hw hK hc i pins s σ H E I hf st hg
  subst hP; subst hw; subst hK
  obtain ⟨⟨old, he⟩, hit, hne⟩ := st
  obtain ⟨xs, hq, hx⟩ := hg
  obtain ⟨its, rv, p, hz⟩ := I.list hq
  obtain ⟨f0, f1, f2, f3, f4, f5⟩ := hf it (by simp)
  have hl := rv.length
  obtain ⟨ol, hol, hcl, nl, hdl⟩ := id p.isList
  have nli : a ≠ it := fun z => by
   obtain ⟨oi, hoi, hci, hdi⟩ := hit
   rw [← z, hol] at hoi
   cases hoi
   rw [hdl] at hdi
   cases hdi
  have D : Draws X.prog X.w X.A.in1 it [it, a] (i + 1) (fun _ _ => False) (fun j h => j = i + 1 ∧ h.IsListIter it a i ∧ h.IsList a its.toArray) := by
   refine ⟨fun j h st => ?_, fun j h h' st k => ⟨st.1, st.2.1.at fun o q => k it (by simp) o q, st.2.2.at fun o q => k a (by simp) o q⟩, fun j s Q E hj st k => absurd st.1 (by omega), fun s Q E st k => wpAny_nextOf_list_end (I.ok.hd hc) st.2.1 st.2.2 (by simp; omega) k⟩
   obtain ⟨o, ho, _⟩ := st.2.1
   exact ⟨o, ho⟩
  exact wpAny_pyNext_enum_endD D he ⟨rfl, hit, p.isList⟩ fun h' eb => ⟨rfl, I.turned (t' := s.toks) (fun b o hb q => eb b o hb q) f0 f1 f3 f4 f5⟩
 self := fun A i s Q E st h => let ⟨⟨_, he⟩, _⟩ := st; wpAny_pyIter_enum he h
def iEnumK (K : PySem.W.Frag) (ta : TA) : TI := fun σ H R => ta σ H fun vs H1 => ∃ a xs, vs = [.ref a] ∧ SqL K H1 a xs ∧ R (It1 K a) H1
theorem pi_enumK {X : Cx} {e : Expr} {ta : TA} {p pos tpos kpos cpos : Pos} {elts : List Expr} {kk j : Nat} (hg : Gl X "enumerate") (hm : X.mg "enumerate" = none) (ha : PA X [e] ta) (hs : starEach [e] X.env = [(false, eval e X.env)] := by rfl) :
  PI X (.Tuple elts kk tpos) (.Call (.Name "enumerate" p) [e] [⟨some "start", .Constant (.int 1) j cpos, kpos⟩] pos) (iEnumK X.K ta) := by
 intro pins s σ H R I h
 have hkw : PK X [⟨some "start", .Constant (.int 1) j cpos, kpos⟩] (tCons (tC (.int 1)) tNil) := pk_cons pe_int pk_nil
 refine wpAny_Call_Name_kw (ld_blt I hg hm boot_enumerate ?_)
 refine PySem.W.callWith_of (P := fun _ => True) (by rw [hs]; rfl) (fun h _ => ⟨.machine, .inr (.inl rfl), .now⟩) (evalArgs_kw2 rfl (thn (ha pos pins s σ H _ I h) fun us s1 ⟨vs, H1, I1, r1, q1⟩ => ?_) hs)
 refine thn (hkw pos pins s1 σ H1 (fun vs H2 => vs = [.int 1] ∧ H2 = H1) I1 ⟨rfl, rfl⟩) fun ws s2 ⟨zs, H2, I2, r2, e2, e3⟩ => ⟨trivial, ?_⟩
 subst e2; subst e3
 obtain ⟨u2, rfl, ⟨tt, rfl⟩⟩ := vals1 r2
 obtain ⟨a, xs, ex, hq, q⟩ := q1
 subst ex
 obtain ⟨u1, rfl, ru⟩ := vals1 r1
 cases ru
 obtain ⟨its, rv, p', hz⟩ := I2.list hq
 refine call_enumK p'.isList fun h' he hit hk => wpAny_pyIter_enum he ?_
 have I3 : Inv X pins σ H2 { s2 with heap := h' } := I2.kept (t' := s2.toks) hk
 refine ⟨s2.heap.objs.size + 1, [s2.heap.objs.size + 1, s2.heap.objs.size], _, _, H2, rfl, I3, turn_enumK a (s2.heap.objs.size + 1) s2.heap.objs.size, ⟨⟨.none, he⟩, hit, Nat.succ_ne_self _⟩, fun b hb => ?_, q⟩
 have hle : s2.heap.objs.size ≤ b := by
  rcases List.mem_cons.mp hb with z | z
  ·rw [z]; exact Nat.le_add_right _ _
  ·rw [List.mem_singleton.mp z]; exact Nat.le_refl _
 exact I2.fpOk hle (I2.hok.fresh hle)
end L2
namespace L2
open PySem PySem.Spec PyProof.Rows
theorem lc_gen {J : It} {n : Nat} {g : TG} {tt : TT} {te : TE} {vs : List Nat} {σ : St} {H1 : Hp} {D : Addr} {Qd : Hp → Prop} (Pv : Nat → Hp → Prop) (h0 : Pv 0 (upd H1 D (.lst [])))
  (hgo : ∀ i H, i < n → Pv i H → J.go i H) (hst : ∀ H, Pv n H → J.stop n H)
  (hs : ∀ i H x H', i < n → Pv i H → J.yld i H x H' → g x (wipe σ vs) H' fun σ2 H2 => wipe σ2 vs = wipe σ vs ∧ tt σ2 H2 fun b H3 =>
   if b = true then te σ2 H3 fun y H4 => ∃ acc, H4 D = some (.lst acc) ∧ acc.length < sizeLine ∧ Pv (i + 1) (upd H4 D (.lst (acc ++ [y]))) else Pv (i + 1) H3) (hd : ∀ H, Pv n H → Qd H) :
  ∃ W : Nat → Nat → Hp → Prop, (∃ m, W 0 m (upd H1 D (.lst []))) ∧ ∀ i m H, W i m H →
   (J.stop i H ∧ Qd H) ∨ (J.go i H ∧ ∃ Nx : Hp → Prop, (∀ H', Nx H' → ∃ m', m' < m ∧ W (i + 1) m' H') ∧ ∀ x H', J.yld i H x H' → g x (wipe σ vs) H' fun σ2 H2 => wipe σ2 vs = wipe σ vs ∧ tt σ2 H2 fun b H3 =>
    if b = true then te σ2 H3 fun y H4 => ∃ acc, H4 D = some (.lst acc) ∧ acc.length < sizeLine ∧ Nx (upd H4 D (.lst (acc ++ [y]))) else Nx H3) := by
 refine ⟨fun i m H => m = n - i ∧ i ≤ n ∧ Pv i H, ⟨n, by simp, Nat.zero_le _, h0⟩, fun i m H ⟨e, hi, p⟩ => ?_⟩
 subst e
 by_cases hlt : i < n
 ·exact .inr ⟨hgo i H hlt p, Pv (i + 1), fun H' p' => ⟨n - (i + 1), by omega, rfl, hlt, p'⟩, fun x H' y => hs i H x H' hlt p y⟩
 ·have e : i = n := by omega
  subst e
  exact .inl ⟨hst H p, hd H p⟩
theorem for_gen {J : It} {n : Nat} {g : TG} {tb : TS} {D : Ends} {σ : St} {H : Hp} (Pv : Nat → St → Hp → Prop) (h0 : Pv 0 σ H)
  (hgo : ∀ i σ H, i < n → Pv i σ H → J.go i H) (hst : ∀ σ H, Pv n σ H → J.stop n H)
  (hs : ∀ i σ H x H', i < n → Pv i σ H → J.yld i H x H' → g x σ H' fun σ2 H2 => tb { D with nx := Pv (i + 1), ct := Pv (i + 1), bk := D.nx } σ2 H2) (hd : ∀ σ H, Pv n σ H → D.nx σ H) :
  ∃ W : Nat → Nat → St → Hp → Prop, (∃ m, W 0 m σ H) ∧ ∀ i m σ H, W i m σ H →
   (J.stop i H ∧ D.nx σ H) ∨ (J.go i H ∧ ∃ N : St → Hp → Prop, (∀ σ' H', N σ' H' → ∃ m', m' < m ∧ W (i + 1) m' σ' H') ∧ ∀ x H', J.yld i H x H' → g x σ H' fun σ2 H2 => tb { D with nx := N, ct := N, bk := D.nx } σ2 H2) := by
 refine ⟨fun i m σ H => m = n - i ∧ i ≤ n ∧ Pv i σ H, ⟨n, by simp, Nat.zero_le _, h0⟩, fun i m σ H ⟨e, hi, p⟩ => ?_⟩
 subst e
 by_cases hlt : i < n
 ·exact .inr ⟨hgo i σ H hlt p, Pv (i + 1), fun σ' H' p' => ⟨n - (i + 1), by omega, rfl, hlt, p'⟩, fun x H' y => hs i σ H x H' hlt p y⟩
 ·have e : i = n := by omega
  subst e
  exact .inl ⟨hst σ H p, hd σ H p⟩
theorem lenT_meets {prog : Program} {w : World} {d : Addr} (hd : (d == sysModules) = false) : MeetsIn prog w (Builtin.«dict.__len__» ⟨[.ref d], []⟩) (fun _ R s => ∃ o es ep, s.heap.get? d = some o ∧ o.data = .dict es ep ∧ R (.ok (.ret (.int es.size s.toks))) { s with toks := s.toks + 1 }) :=
 .of_wp fun A R s ⟨o, es, ep, ho, hdat, h⟩ => by
  show wpAny _ _ (do let n ← dictSize d; let m ← Builtin.Dict.pendingCount d; retInt (n + m)) _ _ s
  unfold dictSize
  exact wpAny_bind (wpAny_bind (wpAny_dictEntries ho hdat (wpAny_pure (wpAny_bind (wpAny_pendingCount_other hd (wpAny_ret_mkInt (by rw [Nat.add_zero]; exact h)))))))
theorem call_lenT {X : Cx} : CallR X (.builtin "len") (fun xs H Q => ∃ a kvs, xs = [V.ref a] ∧ H a = some (.dT kvs) ∧ Q (.int kvs.length) H) := by
 intro pins s σ H xs us Q I r h
 obtain ⟨a, kvs, rfl, ha, q⟩ := h
 obtain ⟨u, rfl, ru⟩ := vals1 r
 cases ru
 obtain ⟨z, hd, xs, kt, o, es, ep, ho, hc, hdat, hes, _⟩ := dt_of I.hok ha
 have hl : es.size = kvs.length := by rw [← Array.length_toList, hes, List.length_map, kt.length]
 have hT : s.TypeIs (.ref a) "dict" := ⟨o, ho, hc.1⟩
 have fin : EP X pins σ Q (.int (es.size : Nat) (s.toks + 1)) { s with toks := s.toks + 1 + 1 } := ⟨.int kvs.length, H, I.tok _, ⟨_, by rw [hl]⟩, q⟩
 have hfit : ((es.size : Nat) : Int) < 2 ^ 63 := by
  rw [sizeLine_eq] at z
  omega
 refine Calls.call_function_entry kind_len plain_len entry_len (args_len1 _) ?_
 unfold Builtin.«len»
 refine wpAny_bind (m := oneArg "len" _) (wpAny_pure (wpAny_bind (m := callSpecial? (.ref a) (Str.ofString "__len__")) ?_))
 refine wpAny_callSpecial?_slot (name := Str.ofString "__len__") hT F.slot_dict_len (call_meetsIn F.slot_dict_len hT F.entry_dict_len (F.args_dict_len_1 _) (lenT_meets hd) ⟨o, es, ep, ho, hdat, ?_⟩)
 refine wpAny_bind (wpAny_holding (wpAny_pure (wpAny_bind (wpAny_letGo ?_))))
 rw [if_neg (show ¬ ((es.size : Nat) : Int) < 0 by omega), if_neg (show ¬ ((es.size : Nat) : Int) ≥ 2 ^ 63 by omega)]
 exact wpAny_bind (wpAny_mkInt (wpAny_pure ⟨_, rfl, fin⟩))
end L2
namespace Dw
open PySem L2
def top (i : Nat) : Stmt := PySem.Challenge.pw_doorward_s01_answers.main.body.getD i (.Pass ⟨0, 0, 0, 0⟩)
abbrev nV (n : Nat) : V := V.int (n : Int)
abbrev nb (l : List Nat) : List V := l.map nV
abbrev Ls (H : Hp) (a : Addr) (l : List Nat) : Prop := H a = some (.lst (nb l))
abbrev NewL (H : Hp) (l : List Nat) (Q : VK) : Prop := ∀ p H', H p = none → Same H H' → Ls H' p l → Q (.ref p) H'
structure Fn where
 a : Addr
 fd : FuncData
structure Fd (K : PySem.W.Frag) (x qual : Str) (st : Stmt) (ps : List Str) (f : Fn) : Prop where
 fn : Fun K x qual st f.a f.fd
 bi : Binds K f.fd ps []
structure Gd (K : PySem.W.Frag) (mg : Str → Option Value) (x : Str) (st : Stmt) (ps : List Str) (f : Fn) : Prop extends Fd K x x st ps f where
 mg : mg x = some (.ref f.a)
theorem up {H : Hp} {p : Addr} {o : HO} (h : H p = none) : Same H (upd H p o) := fun b u e => by rw [upd_ne (ne_of_none e h)]; exact e
theorem nb_append (a b : List Nat) : nb (a ++ b) = nb a ++ nb b := List.map_append ..
theorem nb_length (a : List Nat) : (nb a).length = a.length := List.length_map ..
theorem nb_get {l : List Nat} {i n : Nat} (h : l[i]? = some n) : (nb l)[i]? = some (nV n) := by rw [List.getElem?_map, h]; rfl
theorem small {n : Nat} (h : n ≤ 100000) : n ≤ sizeLine := Nat.le_trans h (by decide)
theorem small' {n : Nat} (h : n ≤ 100000) : n < sizeLine := Nat.lt_of_le_of_lt h (by decide)
section
variable {X : Cx} {mg : Str → Option Value} {k j : Nat} {f : Fn} {x : Str} {st : Stmt} {ps : List Str} {sp : Sp} {p pos : Pos} {e : Expr} {es : List Expr} {t : TA}
theorem callN (G : FnOk X.prog X.w X.K X.mg X.base CX0 j f.a f.fd ps sp) (F : Gd X.K X.mg x st ps f) (hr : Room k X.A) (ha : PA X (e :: es) t)
  (hj : j ≤ k := by decide) (hg : Gl X x := by rfl)
  (hdb : (x == ("__debug__" : Str)) = false := by decide) (he : starEach (e :: es) X.env = (false, eval e X.env) :: starEach es X.env := by rfl) (hpl : (backTo pos (starEach es X.env)).any (·.1) = false := by rfl) :
  PE X (.Call (.Name x p) (e :: es) [] pos) (tCall sp [] E0 t) :=
 pe_call G (hr.mono hj) hg F.mg F.fn.kp F.bi .nil pass0 ha hdb he hpl
end
section
variable {X : Cx}
theorem imp2 {f : Value → Value → Sem Value} {r r' : R2} (h : OpR X f r) (i : ∀ x y H Q, r' x y H Q → r x y H Q) : OpR X f r' := fun pins s σ H x y v u Q I rx ry q => h pins s σ H x y v u Q I rx ry (i x y H Q q)
def rN (C : Nat → Nat → Prop) (g : Nat → Nat → V) : R2 := fun x y H Q => ∃ i j : Nat, x = nV i ∧ y = nV j ∧ C i j ∧ Q (g i j) H
def rN0 (g : Nat → Nat → V) : R2 := fun x y H Q => ∃ i j : Nat, x = nV i ∧ y = nV j ∧ Q (g i j) H
theorem pow_cast (k : Nat) : ((2 : Int) ^ k) = ((2 ^ k : Nat) : Int) := by
 rw [Int.natCast_pow]
 rfl
theorem o_add : OpR X (binaryOp .Add) (rN0 fun i j => nV (i + j)) := imp2 op_add fun x y H Q ⟨i, j, e1, e2, q⟩ => ⟨i, j, e1, e2, by dsimp only; rw [← Int.natCast_add]; exact q⟩
theorem o_mul : OpR X (binaryOp .Mult) (rN (fun i j => i < 2 ^ 63 ∨ j < 2 ^ 63) fun i j => nV (i * j)) := imp2 op_mul fun x y H Q ⟨i, j, e1, e2, c, q⟩ => ⟨i, j, e1, e2, by
  dsimp only at c
  unfold CMul
  rcases c with c | c
  ·left
   constructor <;> omega
  ·right
   constructor <;> omega, by dsimp only; rw [← Int.natCast_mul]; exact q⟩
theorem o_mod : OpR X (binaryOp .Mod) (rN (fun _ j => 0 < j) fun i j => nV (i % j)) := imp2 op_mod fun x y H Q ⟨i, j, e1, e2, c, q⟩ => ⟨i, j, e1, e2, by dsimp only at c ⊢; omega, by dsimp only; rw [← Int.natCast_emod]; exact q⟩
theorem o_div : OpR X (binaryOp .FloorDiv) (rN (fun _ j => 0 < j ∧ j < 1000000) fun i j => nV (i / j)) := imp2 op_fdiv fun x y H Q ⟨i, j, e1, e2, c, q⟩ => ⟨i, j, e1, e2, ⟨by dsimp only at c; omega, by dsimp only at c; omega⟩, by dsimp only; rw [← Int.natCast_ediv]; exact q⟩
theorem o_shl : OpR X (binaryOp .LShift) (rN (fun i j => i < 2 ^ 63 ∧ j ≤ 1000) fun i j => nV (i * 2 ^ j)) := imp2 op_shl fun x y H Q ⟨i, j, e1, e2, c, q⟩ => ⟨i, j, e1, e2, ⟨by omega, by dsimp only at c; omega, by dsimp only at c; omega⟩, by
 dsimp only
 rw [Int.toNat_natCast, pow_cast, ← Int.natCast_mul]; exact q⟩
theorem o_shr : OpR X (binaryOp .RShift) (rN0 fun i j => nV (i / 2 ^ j)) := imp2 op_shr fun x y H Q ⟨i, j, e1, e2, q⟩ => ⟨i, j, e1, e2, by omega, by
 dsimp only
 rw [Int.toNat_natCast, pow_cast, ← Int.natCast_ediv]; exact q⟩
theorem b_and (i j : Nat) : Builtin.bitAnd (i : Int) (j : Int) = ((i &&& j : Nat) : Int) := by
 rw [PyProof.Rows.bitAnd_pp (Int.natCast_nonneg _) (Int.natCast_nonneg _)]
 rfl
theorem b_or (i j : Nat) : Builtin.bitOr (i : Int) (j : Int) = ((i ||| j : Nat) : Int) := by
 rw [Bits.bitOr_pp (Int.natCast_nonneg _) (Int.natCast_nonneg _)]
 rfl
theorem b_xor (i j : Nat) : Builtin.bitXor (i : Int) (j : Int) = ((i ^^^ j : Nat) : Int) := by
 rw [Bits.bitXor_pp (Int.natCast_nonneg _) (Int.natCast_nonneg _)]
 rfl
theorem o_and : OpR X (binaryOp .BitAnd) (rN0 fun i j => nV (i &&& j)) := imp2 op_and fun x y H Q ⟨i, j, e1, e2, q⟩ => ⟨i, j, e1, e2, by dsimp only; rw [b_and]; exact q⟩
theorem o_or : OpR X (binaryOp .BitOr) (rN0 fun i j => nV (i ||| j)) := imp2 op_or fun x y H Q ⟨i, j, e1, e2, q⟩ => ⟨i, j, e1, e2, by dsimp only; rw [b_or]; exact q⟩
theorem o_xor : OpR X (binaryOp .BitXor) (rN0 fun i j => nV (i ^^^ j)) := imp2 op_xor fun x y H Q ⟨i, j, e1, e2, q⟩ => ⟨i, j, e1, e2, by dsimp only; rw [b_xor]; exact q⟩
theorem dec_n (i j : Nat) : decide (V.int (i : Int) = V.int (j : Int)) = decide (i = j) := decide_eq_decide.mpr ⟨fun h => by have := V.int.inj h; omega, fun h => by rw [h]⟩
theorem o_eq : OpR X (compareOp .Eq) (rN0 fun i j => .bl (decide (i = j))) := imp2 op_eq fun x y H Q ⟨i, j, e1, e2, q⟩ => by
 subst e1; subst e2
 exact ⟨rfl, by rw [dec_n]; exact q⟩
theorem o_ne : OpR X (compareOp .NotEq) (rN0 fun i j => .bl (!decide (i = j))) := imp2 op_ne fun x y H Q ⟨i, j, e1, e2, q⟩ => by
 subst e1; subst e2
 exact ⟨rfl, by rw [dec_n]; exact q⟩
theorem o_lt : OpR X (compareOp .Lt) (rN0 fun i j => .bl (decide (i < j))) := imp2 op_lt fun x y H Q ⟨i, j, e1, e2, q⟩ => ⟨i, j, e1, e2, by
 dsimp only
 rw [show decide ((i : Int) < (j : Int)) = decide (i < j) from decide_eq_decide.mpr ⟨fun h => by omega, fun h => by omega⟩]; exact q⟩
theorem o_le : OpR X (compareOp .LtE) (rN0 fun i j => .bl (decide (i ≤ j))) := imp2 op_le fun x y H Q ⟨i, j, e1, e2, q⟩ => ⟨i, j, e1, e2, by
 dsimp only
 rw [show decide ((i : Int) ≤ (j : Int)) = decide (i ≤ j) from decide_eq_decide.mpr ⟨fun h => by omega, fun h => by omega⟩]; exact q⟩
theorem o_gt : OpR X (compareOp .Gt) (rN0 fun i j => .bl (decide (j < i))) := imp2 op_gt fun x y H Q ⟨i, j, e1, e2, q⟩ => ⟨i, j, e1, e2, by
 dsimp only
 rw [show decide ((j : Int) < (i : Int)) = decide (j < i) from decide_eq_decide.mpr ⟨fun h => by omega, fun h => by omega⟩]; exact q⟩
def rCatN : R2 := fun x y H Q => ∃ a b, ∃ l m : List Nat, x = .ref a ∧ y = .ref b ∧ Ls H a l ∧ Ls H b m ∧ l.length + m.length ≤ 200000 ∧ NewL H (l ++ m) Q
theorem big {n : Nat} (h : n ≤ 200000) : n ≤ sizeLine := Nat.le_trans h (by decide)
theorem o_cat : OpR X (binaryOp .Add) rCatN := imp2 op_cat fun x y H Q ⟨a, b, l, m, e1, e2, h1, h2, hl, q⟩ =>
 ⟨a, b, _, _, e1, e2, h1, h2, by rw [nb_length, nb_length]; exact big hl, fun p hp => q p _ hp (up hp) (by unfold Ls; rw [nb_append]; exact upd_same)⟩
theorem rep_flat (x : V) : ∀ k : Nat, (List.replicate k [x]).flatten = List.replicate k x
 | 0 => rfl
 | k + 1 => by rw [List.replicate_succ, List.flatten_cons, rep_flat x k, List.replicate_succ]; rfl
def rRepN : R2 := fun x y H Q => ∃ a, ∃ n k : Nat, ∃ z : Int, x = .ref a ∧ y = .int z ∧ z.toNat = k ∧ -100000 ≤ z ∧ z ≤ 100000 ∧ Ls H a [n] ∧ NewL H (List.replicate k n) Q
theorem o_rep : OpR X (binaryOp .Mult) rRepN := imp2 op_rep fun x y H Q ⟨a, n, k, z, e1, e2, ek, h1, h2, ha, q⟩ =>
 ⟨a, z, _, e1, e2, ha, by omega, by omega, by rw [nb_length, ek]; show 1 * k ≤ _; exact small (by omega), fun p hp => q p _ hp (up hp) (by
  show upd H p (.lst (List.replicate z.toNat (nb [n])).flatten) p = _
  rw [upd_same, ek]
  show some (HO.lst (List.replicate k [nV n]).flatten) = some (HO.lst (nb (List.replicate k n)))
  rw [rep_flat]
  unfold nb
  rw [List.map_replicate])⟩
theorem lenN : CallR X (.builtin "len") (fun xs H Q => ∃ p, ∃ l : List Nat, xs = [.ref p] ∧ SqL X.K H p (nb l) ∧ Q (nV l.length) H) := fun pins s σ H xs us Q I r ⟨p, l, e, hl, q⟩ =>
 call_len_seq pins s σ H xs us Q I r ⟨p, nb l, e, .inl hl, by rw [nb_length]; exact q⟩
theorem ix_n : IxR X (fun x y H Q => ∃ p, ∃ l : List Nat, ∃ i n : Nat, x = .ref p ∧ y = nV i ∧ SqL X.K H p (nb l) ∧ l[i]? = some n ∧ Q (nV n) H) := fun val sl pins s σ H x y v u Q I rx ry ⟨p, l, i, n, e1, e2, hl, hi, q⟩ =>
 ix_list val sl pins s σ H x y v u Q I rx ry ⟨p, nb l, (i : Int), nV n, e1, e2, hl, atI_nat (nb_get hi), q⟩
theorem ix_tn : IxR X (fun x y H Q => ∃ p, ∃ l : List Nat, ∃ i n : Nat, x = .ref p ∧ y = nV i ∧ SqT X.K H p (nb l) ∧ l[i]? = some n ∧ Q (nV n) H) := fun val sl pins s σ H x y v u Q I rx ry ⟨p, l, i, n, e1, e2, hl, hi, q⟩ =>
 ix_tup val sl pins s σ H x y v u Q I rx ry ⟨p, nb l, (i : Int), nV n, e1, e2, hl, atI_nat (nb_get hi), q⟩
end
end Dw
namespace Dw
open PySem L2
structure Kl (K : PySem.W.Frag) (mg : Str → Option Value) (x : Str) (C : Addr) (i : Fn) (at_ : List Str) : Prop where
 cl : Cls K C
 mke : Mk K C i.a
 mg : mg x = some (.ref C)
 no : ∀ f, f ∈ at_ → NoAttr K C f
structure Md (K : PySem.W.Frag) (C : Addr) (x qual : Str) (st : Stmt) (ps : List Str) (f : Fn) : Prop extends Fd K x qual st ps f where
 me : Meth K C x f.a
def TupIn (K : PySem.W.Frag) (a : Addr) (xs : List V) : Prop := ∀ H : Hp, SqT K H a xs
structure Adr where
 low_first : Fn
 padded : Fn
 words_of : Fn
 stirred : Fn
 md5 : Fn
 keyed_md5 : Fn
 aSTART : Addr
 aSINES : Addr
 aTURNS : Addr
 read_packet : Fn
 read_attributes : Fn
 attribute_bytes : Fn
 with_zeros : Fn
 check_proof : Fn
 make_answer : Fn
 cNoAnswer : Addr
 cAttribute : Addr
 iAttribute : Fn
 cPacket : Addr
 iPacket : Fn
 packet_all_of : Fn
 packet_only : Fn
 codes : Fn
 hex_codes : Fn
 parted : Fn
 answer_access : Fn
 is_password_right : Fn
 read_hashed : Fn
 read_challenge : Fn
 read_password : Fn
 is_limit_reached : Fn
 check_accounting : Fn
 sessions_after : Fn
 read_status : Fn
 sessions_with : Fn
 cSession : Addr
 iSession : Fn
 session_is_same : Fn
 session_line : Fn
 cAnswered : Addr
 iAnswered : Fn
 answered_fits : Fn
 cServer : Addr
 iServer : Fn
 server_answer : Fn
 server_account : Fn
 read_settings : Fn
 read_words : Fn
 take_words : Fn
 take_client : Fn
 take_user : Fn
 take_user_word : Fn
 read_told : Fn
 read_number : Fn
 four_bytes : Fn
 cWrongWords : Addr
 cWrongLine : Addr
 iWrongLine : Fn
 cUser : Addr
 iUser : Fn
 cSettings : Addr
 iSettings : Fn
 aNUMBER_WORDS : Addr
 aNW0 : Addr
 aNW1 : Addr
 aNW2 : Addr
 answer_call : Fn
 answers : Fn
 cReader : Addr
 iReader : Fn
 reader_has_more : Fn
 reader_take_number : Fn
 reader_take_row : Fn
 cPorter : Addr
 iPorter : Fn
 porter_begin : Fn
 porter_answer_packet : Fn
 porter_list_sessions : Fn
def consts : List (Str × Int) := [(("MASK" : Str), (4294967295 : Int)), (("USER_NAME" : Str), (1 : Int)), (("MESSAGE" : Str), (18 : Int)), (("PASSED_BACK" : Str), (33 : Int)), (("PROOF" : Str), (80 : Int)), (("HEAD_SIZE" : Str), (20 : Int)), (("MOST_SIZE" : Str), (4096 : Int)), (("SUM_SIZE" : Str), (16 : Int)), (("AUTHENTICATOR_PLACE" : Str), (4 : Int)), (("PASSWORD" : Str), (2 : Int)), (("HASHED_PASSWORD" : Str), (3 : Int)), (("DOOR_ADDRESS" : Str), (4 : Int)), (("DOOR_NAME" : Str), (32 : Int)), (("CHALLENGE" : Str), (60 : Int)), (("LET_IN" : Str), (2 : Int)), (("TURNED_AWAY" : Str), (3 : Int)), (("BLOCK_SIZE" : Str), (16 : Int)), (("MOST_HIDDEN" : Str), (128 : Int)), (("HASHED_SIZE" : Str), (17 : Int)), (("STATUS" : Str), (40 : Int)), (("SESSION_NAME" : Str), (44 : Int)), (("BEGINS" : Str), (1 : Int)), (("ENDS" : Str), (2 : Int)), (("GOES_ON" : Str), (3 : Int)), (("CLIENT_BEGINS" : Str), (7 : Int)), (("CLIENT_ENDS" : Str), (8 : Int)), (("MOST_SESSIONS" : Str), (64 : Int)), (("ACCESS" : Str), (1 : Int)), (("ACCOUNTING" : Str), (4 : Int)), (("ACCOUNTED" : Str), (5 : Int)), (("KEPT_ANSWERS" : Str), (16 : Int)), (("KEPT_SECONDS" : Str), (30 : Int)), (("NEWLINE" : Str), (10 : Int)), (("BLANK" : Str), (32 : Int)), (("LAST_PRINTABLE" : Str), (126 : Int)), (("ZERO" : Str), (48 : Int)), (("NINE" : Str), (57 : Int)), (("EQUALS" : Str), (61 : Int)), (("MOST_DIGITS" : Str), (10 : Int)), (("MOST_NUMBER" : Str), (4294967295 : Int)), (("MOST_CLIENT" : Str), (255 : Int)), (("MOST_SECRET" : Str), (64 : Int)), (("MOST_USERS" : Str), (256 : Int)), (("MOST_NAME" : Str), (63 : Int)), (("MOST_PASSWORD" : Str), (128 : Int)), (("MOST_WORDS" : Str), (8 : Int)), (("MOST_LIMIT" : Str), (64 : Int)), (("MOST_MESSAGE" : Str), (200 : Int)), (("BEGIN" : Str), (0 : Int)), (("PACKET" : Str), (1 : Int)), (("TOO_LONG" : Str), (-1 : Int)), (("OUT_OF_RANGE" : Str), (-2 : Int)), (("NO_SERVER" : Str), (-9 : Int)), (("BEFORE_FIRST_LINE" : Str), (-100 : Int)), (("MOST_TEXT" : Str), (65536 : Int)), (("MOST_PACKET" : Str), (65535 : Int)), (("LEAST_ROOM" : Str), (4096 : Int)), (("MOST_ROOM" : Str), (65536 : Int))]
def bltns : List Str := ["len", "range", "list", "zip", "ord", "min", "tuple", "reversed", "enumerate", "any", "str"]
structure Tx_digest (K : PySem.W.Frag) (mg : Str → Option Value) (t : Adr) : Prop where
 low_first : Gd K mg "low_first" (top 5) ["number", "size"] t.low_first
 padded : Gd K mg "padded" (top 6) ["message"] t.padded
 words_of : Gd K mg "words_of" (top 7) ["block"] t.words_of
 stirred : Gd K mg "stirred" (top 8) ["state", "block"] t.stirred
 md5 : Gd K mg "md5" (top 9) ["message"] t.md5
 keyed_md5 : Gd K mg "keyed_md5" (top 10) ["key", "message"] t.keyed_md5
 START : mg "START" = some (.ref t.aSTART)
 tSTART : TupIn K t.aSTART (nb [1732584193, 4023233417, 2562383102, 271733878])
 SINES : mg "SINES" = some (.ref t.aSINES)
 tSINES : TupIn K t.aSINES (nb [3614090360, 3905402710, 606105819, 3250441966, 4118548399, 1200080426, 2821735955, 4249261313, 1770035416, 2336552879, 4294925233, 2304563134, 1804603682, 4254626195, 2792965006, 1236535329, 4129170786, 3225465664, 643717713, 3921069994, 3593408605, 38016083, 3634488961, 3889429448, 568446438, 3275163606, 4107603335, 1163531501, 2850285829, 4243563512, 1735328473, 2368359562, 4294588738, 2272392833, 1839030562, 4259657740, 2763975236, 1272893353, 4139469664, 3200236656, 681279174, 3936430074, 3572445317, 76029189, 3654602809, 3873151461, 530742520, 3299628645, 4096336452, 1126891415, 2878612391, 4237533241, 1700485571, 2399980690, 4293915773, 2240044497, 1873313359, 4264355552, 2734768916, 1309151649, 4149444226, 3174756917, 718787259, 3951481745])
 TURNS : mg "TURNS" = some (.ref t.aTURNS)
 tTURNS : TupIn K t.aTURNS (nb [7, 12, 17, 22, 5, 9, 14, 20, 4, 11, 16, 23, 6, 10, 15, 21])
structure Tx_packets (K : PySem.W.Frag) (mg : Str → Option Value) (t : Adr) : Prop where
 read_packet : Gd K mg "read_packet" (top 23) ["data"] t.read_packet
 read_attributes : Gd K mg "read_attributes" (top 24) ["data"] t.read_attributes
 attribute_bytes : Gd K mg "attribute_bytes" (top 25) ["kind", "value"] t.attribute_bytes
 with_zeros : Gd K mg "with_zeros" (top 26) ["data", "place"] t.with_zeros
 check_proof : Gd K mg "check_proof" (top 27) ["packet", "data", "secret"] t.check_proof
 make_answer : Gd K mg "make_answer" (top 28) ["packet", "secret", "code", "told"] t.make_answer
 cNoAnswer : ExcC K mg "NoAnswer" t.cNoAnswer
 cAttribute : Kl K mg "Attribute" t.cAttribute t.iAttribute ["kind", "place", "value"]
 iAttribute : Fd K "__init__" "Attribute.__init__" (inClass (top 21) 0) ["self", "kind", "place", "value"] t.iAttribute
 cPacket : Kl K mg "Packet" t.cPacket t.iPacket ["data", "code", "number", "authenticator", "attributes"]
 iPacket : Fd K "__init__" "Packet.__init__" (inClass (top 22) 0) ["self", "data", "attributes"] t.iPacket
 packet_all_of : Md K t.cPacket "all_of" "Packet.all_of" (inClass (top 22) 1) ["self", "kind"] t.packet_all_of
 packet_only : Md K t.cPacket "only" "Packet.only" (inClass (top 22) 2) ["self", "kind"] t.packet_only
structure Tx_signs (K : PySem.W.Frag) (mg : Str → Option Value) (t : Adr) : Prop where
 codes : Gd K mg "codes" (top 31) ["text"] t.codes
 hex_codes : Gd K mg "hex_codes" (top 32) ["row"] t.hex_codes
 parted : Gd K mg "parted" (top 33) ["row", "mark"] t.parted
 HEX_DIGITS : ∃ u, mg "HEX_DIGITS" = some (.str "0123456789abcdef" u)
structure Tx_access (K : PySem.W.Frag) (mg : Str → Option Value) (t : Adr) : Prop where
 answer_access : Gd K mg "answer_access" (top 45) ["packet", "secret", "users", "sessions"] t.answer_access
 is_password_right : Gd K mg "is_password_right" (top 46) ["packet", "secret", "user"] t.is_password_right
 read_hashed : Gd K mg "read_hashed" (top 47) ["packet"] t.read_hashed
 read_challenge : Gd K mg "read_challenge" (top 48) ["packet"] t.read_challenge
 read_password : Gd K mg "read_password" (top 49) ["packet", "secret"] t.read_password
 is_limit_reached : Gd K mg "is_limit_reached" (top 50) ["user", "name", "sessions"] t.is_limit_reached
structure Tx_accounting (K : PySem.W.Frag) (mg : Str → Option Value) (t : Adr) : Prop where
 check_accounting : Gd K mg "check_accounting" (top 61) ["packet", "secret"] t.check_accounting
 sessions_after : Gd K mg "sessions_after" (top 62) ["packet", "client", "sessions"] t.sessions_after
 read_status : Gd K mg "read_status" (top 63) ["packet"] t.read_status
 sessions_with : Gd K mg "sessions_with" (top 64) ["sessions", "told"] t.sessions_with
 cSession : Kl K mg "Session" t.cSession t.iSession ["client", "user_name", "session_name"]
 iSession : Fd K "__init__" "Session.__init__" (inClass (top 60) 0) ["self", "client", "user_name", "session_name"] t.iSession
 session_is_same : Md K t.cSession "is_same" "Session.is_same" (inClass (top 60) 1) ["self", "other"] t.session_is_same
 session_line : Md K t.cSession "line" "Session.line" (inClass (top 60) 2) ["self"] t.session_line
structure Tx_server (K : PySem.W.Frag) (mg : Str → Option Value) (t : Adr) : Prop where
 cAnswered : Kl K mg "Answered" t.cAnswered t.iAnswered ["client", "number", "authenticator", "now", "given"]
 iAnswered : Fd K "__init__" "Answered.__init__" (inClass (top 71) 0) ["self", "client", "packet", "now", "given"] t.iAnswered
 answered_fits : Md K t.cAnswered "fits" "Answered.fits" (inClass (top 71) 1) ["self", "client", "packet", "now"] t.answered_fits
 cServer : Kl K mg "Server" t.cServer t.iServer ["settings", "sessions", "answered"]
 iServer : Fd K "__init__" "Server.__init__" (inClass (top 72) 0) ["self", "settings"] t.iServer
 server_answer : Md K t.cServer "answer" "Server.answer" (inClass (top 72) 1) ["self", "client", "now", "data"] t.server_answer
 server_account : Md K t.cServer "account" "Server.account" (inClass (top 72) 2) ["self", "client", "packet", "secret"] t.server_account
structure Tx_settings (K : PySem.W.Frag) (mg : Str → Option Value) (t : Adr) : Prop where
 read_settings : Gd K mg "read_settings" (top 95) ["text"] t.read_settings
 read_words : Gd K mg "read_words" (top 96) ["line"] t.read_words
 take_words : Gd K mg "take_words" (top 97) ["settings", "words"] t.take_words
 take_client : Gd K mg "take_client" (top 98) ["settings", "words"] t.take_client
 take_user : Gd K mg "take_user" (top 99) ["settings", "words"] t.take_user
 take_user_word : Gd K mg "take_user_word" (top 100) ["user", "word"] t.take_user_word
 read_told : Gd K mg "read_told" (top 101) ["label", "value"] t.read_told
 read_number : Gd K mg "read_number" (top 102) ["word", "most"] t.read_number
 four_bytes : Gd K mg "four_bytes" (top 103) ["number"] t.four_bytes
 cWrongWords : ExcC K mg "WrongWords" t.cWrongWords
 cWrongLine : ExcI K mg "WrongLine" "line_number" "line_number" "WrongLine.__init__" t.cWrongLine t.iWrongLine.a
 cUser : Kl K mg "User" t.cUser t.iUser ["password", "limit", "told"]
 iUser : Fd K "__init__" "User.__init__" (inClass (top 93) 0) ["self", "password"] t.iUser
 cSettings : Kl K mg "Settings" t.cSettings t.iSettings ["secrets", "users"]
 iSettings : Fd K "__init__" "Settings.__init__" (inClass (top 94) 0) ["self"] t.iSettings
 NUMBER_WORDS : mg "NUMBER_WORDS" = some (.ref t.aNUMBER_WORDS)
 tNUMBER_WORDS : TupIn K t.aNUMBER_WORDS [.ref t.aNW0, .ref t.aNW1, .ref t.aNW2]
 tNW0 : TupIn K t.aNW0 [.str "service", .int 6]
 tNW1 : TupIn K t.aNW1 [.str "timeout", .int 27]
 tNW2 : TupIn K t.aNW2 [.str "idle", .int 28]
structure Tx_porter (K : PySem.W.Frag) (mg : Str → Option Value) (t : Adr) : Prop where
 answer_call : Gd K mg "answer_call" (top 117) ["porter", "reader"] t.answer_call
 answers : Gd K mg "answers" (top 118) ["calls"] t.answers
 cReader : Kl K mg "Reader" t.cReader t.iReader ["numbers", "place"]
 iReader : Fd K "__init__" "Reader.__init__" (inClass (top 115) 0) ["self", "numbers"] t.iReader
 reader_has_more : Md K t.cReader "has_more" "Reader.has_more" (inClass (top 115) 1) ["self"] t.reader_has_more
 reader_take_number : Md K t.cReader "take_number" "Reader.take_number" (inClass (top 115) 2) ["self"] t.reader_take_number
 reader_take_row : Md K t.cReader "take_row" "Reader.take_row" (inClass (top 115) 3) ["self"] t.reader_take_row
 cPorter : Kl K mg "Porter" t.cPorter t.iPorter ["server"]
 iPorter : Fd K "__init__" "Porter.__init__" (inClass (top 116) 0) ["self"] t.iPorter
 porter_begin : Md K t.cPorter "begin" "Porter.begin" (inClass (top 116) 1) ["self", "text"] t.porter_begin
 porter_answer_packet : Md K t.cPorter "answer_packet" "Porter.answer_packet" (inClass (top 116) 2) ["self", "client", "now", "most", "data"] t.porter_answer_packet
 porter_list_sessions : Md K t.cPorter "list_sessions" "Porter.list_sessions" (inClass (top 116) 3) ["self", "most"] t.porter_list_sessions
structure Txt (K : PySem.W.Frag) (mg : Str → Option Value) (t : Adr) : Prop where
 digest : Tx_digest K mg t
 packets : Tx_packets K mg t
 signs : Tx_signs K mg t
 access : Tx_access K mg t
 accounting : Tx_accounting K mg t
 server : Tx_server K mg t
 settings : Tx_settings K mg t
 porter : Tx_porter K mg t
 int : ∀ x n, (x, n) ∈ consts → ∃ u, mg x = some (.int n u)
 blt : ∀ x, x ∈ bltns → mg x = none
theorem gN {X : Cx} {t : Adr} (T : Txt X.K X.mg t) (x : Str) (n : Int) {pos : Pos} (h : (x, n) ∈ consts := by decide +kernel) (hg : Gl X x := by rfl) (hd : (x == ("__debug__" : Str)) = false := by decide) : PE X (.Name x pos) (tC (.int n)) := by
 obtain ⟨u, e⟩ := T.int x n h
 exact pe_glob hg e ⟨u, rfl⟩ hd
end Dw
namespace Dw
open PySem L2
section
variable {X : Cx} {t : Adr} {e e2 : Expr} {te te2 : TE} {p pos : Pos}
theorem bl_in (T : Txt X.K X.mg t) (x : Str) (h : x ∈ bltns := by decide +kernel) : X.mg x = none := T.blt x h
theorem pLen {K : PySem.W.Frag} (T : Txt K X.mg t) (h : PE X e te) (hg : Gl X "len" := by rfl) (he : starEach [e] X.env = [(false, eval e X.env)] := by rfl) (hK : X.K = K := by rfl) :
  PE X (.Call (.Name "len" p) [e] [] pos) (tCB (fun xs H Q => ∃ p, ∃ l : List Nat, xs = [.ref p] ∧ SqL K H p (nb l) ∧ Q (nV l.length) H) (tCons te tNil)) := by
 subst hK
 exact pe_callB lenN hg (bl_in T "len") PySem.boot_len (pa_cons h pa_nil he) (by decide) (by decide) he rfl
theorem pLenV {K : PySem.W.Frag} (T : Txt K X.mg t) (h : PE X e te) (hg : Gl X "len" := by rfl) (he : starEach [e] X.env = [(false, eval e X.env)] := by rfl) (hK : X.K = K := by rfl) :
  PE X (.Call (.Name "len" p) [e] [] pos) (tCB (fun xs H Q => ∃ p ys, xs = [.ref p] ∧ (SqL K H p ys ∨ SqT K H p ys) ∧ Q (nV ys.length) H) (tCons te tNil)) := by
 subst hK
 exact pe_callB call_len_seq hg (bl_in T "len") PySem.boot_len (pa_cons h pa_nil he) (by decide) (by decide) he rfl
end
section
variable {X : Cx} {K : PySem.W.Frag} {e e2 : Expr} {te te2 : TE} {p pos : Pos} {f : Str}
theorem ix_nk (K : PySem.W.Frag) (h : X.K = K := by rfl) : IxR X (fun x y H Q => ∃ p, ∃ l : List Nat, ∃ i n : Nat, x = .ref p ∧ y = nV i ∧ SqL K H p (nb l) ∧ l[i]? = some n ∧ Q (nV n) H) := by
 subst h
 exact ix_n
theorem ix_tk (K : PySem.W.Frag) (h : X.K = K := by rfl) : IxR X (fun x y H Q => ∃ p, ∃ l : List Nat, ∃ i n : Nat, x = .ref p ∧ y = nV i ∧ SqT K H p (nb l) ∧ l[i]? = some n ∧ Q (nV n) H) := by
 subst h
 exact ix_tn
theorem ix_vk (K : PySem.W.Frag) (h : X.K = K := by rfl) : IxR X (fun x y H Q => ∃ p xs, ∃ i : Nat, ∃ v, x = .ref p ∧ y = nV i ∧ SqL K H p xs ∧ xs[i]? = some v ∧ Q v H) := by
 subst h
 exact fun val sl pins s σ H x y v u Q I rx ry ⟨p, l, i, n, e1, e2, hl, hi, q⟩ => ix_list val sl pins s σ H x y v u Q I rx ry ⟨p, l, (i : Int), n, e1, e2, hl, atI_nat hi, q⟩
theorem sl_vk (K : PySem.W.Frag) (h : X.K = K := by rfl) : SlR X (rSlL K) := by
 subst h
 exact sl_list
theorem fldK (K : PySem.W.Frag) (he : PE X e te) (hb : attributeBase e f X.env (eval e X.env) = eval e X.env) (h : X.K = K := by rfl) : PE X (.Attribute e f pos) (tFld K te f) := by
 subst h
 exact pe_fld he hb
theorem pgTupK (K : PySem.W.Frag) {es : List Expr} {k : Nat} {t : TGs} {n : Nat} (hc : X.calm = true) (h : PGs X es t) (hn : (assignEach es X.env).length = n := by rfl) (hst : (assignEach es X.env).findIdx? (·.1) = none := by rfl) (hK : X.K = K := by rfl) : PG X (.Tuple es k pos) (gTup K n t) := by
 subst hK
 exact pg_tup hc h hn hst
end
section
variable {X : Cx} {k j : Nat} {f : Fn} {C : Addr} {x m qual : Str} {st : Stmt} {ps at_ : List Str} {sp : Sp} {p pos apos : Pos} {o e : Expr} {es : List Expr} {ta : TE} {t : TA} {E : XK}
theorem callX (G : FnOk X.prog X.w X.K X.mg X.base (CXF X.prog X.w) j f.a f.fd ps sp) (F : Gd X.K X.mg x st ps f) (hr : Room k X.A) (hx : Passes (CXF X.prog X.w) X E) (ha : PA X (e :: es) t)
  (hj : j ≤ k := by decide) (hg : Gl X x := by rfl)
  (hdb : (x == ("__debug__" : Str)) = false := by decide) (he : starEach (e :: es) X.env = (false, eval e X.env) :: starEach es X.env := by rfl) (hpl : (backTo pos (starEach es X.env)).any (·.1) = false := by rfl) :
  PE X (.Call (.Name x p) (e :: es) [] pos) (tCall sp [] E t) :=
 pe_call G (hr.mono hj) hg F.mg F.fn.kp F.bi .nil hx ha hdb he hpl
theorem methN {pl : Sem Bool} (ho : PE X o ta) (c : Cls X.K C) (M : Md X.K C m qual st ps f) (G : FnOk X.prog X.w X.K X.mg X.base CX0 j f.a f.fd ps sp) (hr : Room k X.A) (ha : PA X (e :: es) t) (hj : j ≤ k := by decide)
  (hst : starEach (e :: es) X.env = (false, eval e X.env) :: starEach es X.env := by rfl) (hpl : (backTo pos (starEach es X.env)).any (·.1) = false := by rfl)
  (ht : eval (.Call (.Attribute o m apos) (e :: es) [] pos) X.env = (do
   let ov ← eval o X.env
   standAt apos.atName
   let (f, first) ← holding [ov] (getMethod ov m pl)
   callWith pos f first (backTo pos (starEach (e :: es) X.env)) (backToKw pos (keywordEach [] X.env))) := by rfl) :
  PE X (.Call (.Attribute o m apos) (e :: es) [] pos) (tMeth C m sp [] E0 ta t) := pe_meth ho c M.me G (hr.mono hj) M.bi .nil pass0 ha hst hpl ht
theorem methN0 {pl : Sem Bool} (ho : PE X o ta) (c : Cls X.K C) (M : Md X.K C m qual st ps f) (G : FnOk X.prog X.w X.K X.mg X.base CX0 j f.a f.fd ps sp) (hr : Room k X.A) (hj : j ≤ k := by decide)
  (ht : eval (.Call (.Attribute o m apos) [] [] pos) X.env = (do
   let ov ← eval o X.env
   standAt apos.atName
   let (f, first) ← holding [ov] (getMethod ov m pl)
   callWith pos f first (backTo pos (starEach [] X.env)) (backToKw pos (keywordEach [] X.env))) := by rfl) :
  PE X (.Call (.Attribute o m apos) [] [] pos) (tMeth C m sp [] E0 ta tNil) := pe_meth0 ho c M.me G (hr.mono hj) M.bi .nil pass0 ht
theorem methX {pl : Sem Bool} (ho : PE X o ta) (c : Cls X.K C) (M : Md X.K C m qual st ps f) (G : FnOk X.prog X.w X.K X.mg X.base (CXF X.prog X.w) j f.a f.fd ps sp) (hr : Room k X.A) (hx : Passes (CXF X.prog X.w) X E) (ha : PA X (e :: es) t) (hj : j ≤ k := by decide)
  (hst : starEach (e :: es) X.env = (false, eval e X.env) :: starEach es X.env := by rfl) (hpl : (backTo pos (starEach es X.env)).any (·.1) = false := by rfl)
  (ht : eval (.Call (.Attribute o m apos) (e :: es) [] pos) X.env = (do
   let ov ← eval o X.env
   standAt apos.atName
   let (f, first) ← holding [ov] (getMethod ov m pl)
   callWith pos f first (backTo pos (starEach (e :: es) X.env)) (backToKw pos (keywordEach [] X.env))) := by rfl) :
  PE X (.Call (.Attribute o m apos) (e :: es) [] pos) (tMeth C m sp [] E ta t) := pe_meth ho c M.me G (hr.mono hj) M.bi .nil hx ha hst hpl ht
theorem makeN (c : Kl X.K X.mg x C f at_) (F : Fd X.K "__init__" qual st ps f) (G : FnOk X.prog X.w X.K X.mg X.base CX0 j f.a f.fd ps sp) (hr : Room k X.A) (ha : PA X (e :: es) t) (hj : j + 1 ≤ k := by decide) (hg : Gl X x := by rfl)
  (hdb : (x == ("__debug__" : Str)) = false := by decide) (he : starEach (e :: es) X.env = (false, eval e X.env) :: starEach es X.env := by rfl) (hpl : (backTo pos (starEach es X.env)).any (·.1) = false := by rfl) :
  PE X (.Call (.Name x p) (e :: es) [] pos) (tMake C sp [] E0 t) := pe_make c.mke G (hr.mono hj) hg c.mg F.bi .nil pass0 ha hdb he hpl
theorem makeN0 (c : Kl X.K X.mg x C f at_) (F : Fd X.K "__init__" qual st ps f) (G : FnOk X.prog X.w X.K X.mg X.base CX0 j f.a f.fd ps sp) (hr : Room k X.A) (hj : j + 1 ≤ k := by decide) (hg : Gl X x := by rfl)
  (hdb : (x == ("__debug__" : Str)) = false := by decide) : PE X (.Call (.Name x p) [] [] pos) (tMake C sp [] E0 tNil) := pe_make0 c.mke G (hr.mono hj) hg c.mg F.bi .nil pass0 hdb
end
theorem gTp {X : Cx} {a : Addr} {x : Str} {pos : Pos} (h : X.mg x = some (.ref a)) (hg : Gl X x := by rfl) (hd : (x == ("__debug__" : Str)) = false := by decide) : PE X (.Name x pos) (tC (.ref a)) := pe_glob hg h rfl hd
theorem bt_list : bootBuiltins "list" = some (.type "list") := by decide +kernel
theorem bt_tuple : bootBuiltins "tuple" = some (.type "tuple") := by decide +kernel
theorem bt_str : bootBuiltins "str" = some (.type "str") := by decide +kernel
theorem bt_ord : bootBuiltins "ord" = some (.builtin "ord") := by decide +kernel
theorem bt_min : bootBuiltins "min" = some (.builtin "min") := by decide +kernel
theorem bt_any : bootBuiltins "any" = some (.builtin "any") := by decide +kernel
def cutN (l : List Nat) (lo hi : Option Int) : List Nat := (l.drop (HT.sIx l.length 0 lo)).take (HT.sIx l.length l.length hi - HT.sIx l.length 0 lo)
theorem cutN_V (l : List Nat) (lo hi : Option Int) : cutV (nb l) lo hi = nb (cutN l lo hi) := by
 unfold cutV cutN nb
 rw [List.map_take, List.map_drop, List.length_map]
theorem take_min {α : Type} (l : List α) (i j : Nat) : (l.drop (min i l.length)).take (min j l.length - min i l.length) = (l.drop i).take (j - i) := by
 by_cases h : i ≤ l.length
 ·rw [Nat.min_eq_left h]
  by_cases h2 : j ≤ l.length
  ·rw [Nat.min_eq_left h2]
  ·rw [Nat.min_eq_right (by omega), List.take_of_length_le (by rw [List.length_drop]; exact Nat.le_refl _), List.take_of_length_le (by rw [List.length_drop]; omega)]
 ·have e : min i l.length = l.length := Nat.min_eq_right (by omega)
  rw [e, List.drop_of_length_le (Nat.le_refl _), List.drop_of_length_le (show l.length ≤ i by omega)]
  simp
theorem cutN_mid (l : List Nat) (i j : Nat) : cutN l (some (i : Int)) (some (j : Int)) = (l.drop i).take (j - i) := by
 unfold cutN
 rw [HT.sIx_nat, HT.sIx_nat]
 exact take_min l i j
theorem cutN_to (l : List Nat) (j : Nat) : cutN l none (some (j : Int)) = l.take j := by
 unfold cutN
 rw [HT.sIx_nat, HT.sIx_none, Nat.sub_zero, List.drop_zero]
 by_cases h2 : j ≤ l.length
 ·rw [Nat.min_eq_left h2]
 ·rw [Nat.min_eq_right (by omega), List.take_of_length_le (Nat.le_refl _), List.take_of_length_le (by omega)]
theorem cutN_from (l : List Nat) (i : Nat) : cutN l (some (i : Int)) none = l.drop i := by
 unfold cutN
 rw [HT.sIx_nat, HT.sIx_none]
 have := take_min l i l.length
 rw [Nat.min_self] at this
 rw [this, List.take_of_length_le (by rw [List.length_drop]; exact Nat.le_refl _)]
theorem sIx_neg (n d k : Nat) (hk : 0 < k) : HT.sIx n d (some (-(k : Int))) = n - k := by
 show (if -(k : Int) < 0 then (-(k : Int) + (n : Int)).toNat else _) = n - k
 rw [if_pos (by omega)]
 omega
theorem cutN_butlast (l : List Nat) (k : Nat) (hk : 0 < k) : cutN l none (some (-(k : Int))) = l.take (l.length - k) := by
 unfold cutN
 rw [sIx_neg _ _ k hk, HT.sIx_none, Nat.sub_zero, List.drop_zero]
theorem cutV_last (l : List V) (k : Nat) (hk : 0 < k) : cutV l (some (-(k : Int))) none = l.drop (l.length - k) := by
 unfold cutV
 rw [sIx_neg _ _ k hk, HT.sIx_none, List.take_of_length_le (by rw [List.length_drop]; exact Nat.le_refl _)]
theorem cutV_from (l : List V) (i : Nat) : cutV l (some (i : Int)) none = l.drop i := by
 unfold cutV
 rw [HT.sIx_nat, HT.sIx_none]
 have := take_min l i l.length
 rw [Nat.min_self] at this
 rw [this, List.take_of_length_le (by rw [List.length_drop]; exact Nat.le_refl _)]
section
variable {X : Cx}
theorem sl_n (K : PySem.W.Frag) (hK : X.K = K := by rfl) : SlR X (fun x lo hi H Q => ∃ a, ∃ l : List Nat, x = .ref a ∧ SqL K H a (nb l) ∧ NewL H (cutN l lo hi) Q) := by
 subst hK
 rintro pins s σ H x v vl vu lo hi sl Q I rx hs pl pu ⟨a, l, e, hl, q⟩
 exact sl_list pins s σ H x v vl vu lo hi sl Q I rx hs pl pu ⟨a, nb l, e, hl, fun p hp => q p _ hp (up hp) (by unfold Ls; rw [upd_same, cutN_V])⟩
theorem o_sub : OpR X (binaryOp .Sub) (rN (fun i j => j ≤ i) fun i j => nV (i - j)) := imp2 op_sub fun x y H Q ⟨i, j, e1, e2, c, q⟩ => ⟨i, j, e1, e2, by
 dsimp only at c ⊢
 rw [show (i : Int) - (j : Int) = ((i - j : Nat) : Int) by omega]
 exact q⟩
end
def dN (l : List Nat) : PyData := .list (l.map fun n : Nat => PyData.int (n : Int))
theorem dp_n {K : PySem.W.Frag} {H : Hp} {a : Addr} {l : List Nat} (h : SqL K H a (nb l)) : Dp K H (.ref a) (dN l) := by
 refine .lst h ?_
 clear h
 induction l with
 | nil => exact .nil
 | cons n l ih => exact .cons (.int _) ih
theorem eqv_n (l m : List Nat) : PyData.eqv (dN l) (dN m) = decide (l = m) := by
 unfold dN
 rw [PyData.eqv]
 induction l generalizing m with
 | nil => cases m with
  | nil => rfl
  | cons y m => rfl
 | cons x l ih => cases m with
  | nil => rfl
  | cons y m =>
   rw [List.map_cons, List.map_cons, PyData.eqvAll, ih m, PyData.eqv]
   by_cases h : x = y
   ·subst h; simp
   ·have : ¬ (x : Int) = (y : Int) := by omega
    simp [h, this]
theorem shaped_n (l : List Nat) : SeqAt.shaped (dN l) = true := by
 have h1 : ∀ l : List Nat, PyData.canLayAll0 (l.map fun n : Nat => PyData.int (n : Int)) = true := fun l => by
  induction l with
  | nil => rfl
  | cons n l ih => rw [List.map_cons, PyData.canLayAll0, ih, PyData.canLay0]; rfl
 have h2 : ∀ l : List Nat, PyData.depthAll (l.map fun n : Nat => PyData.int (n : Int)) = 0 := fun l => by
  induction l with
  | nil => rfl
  | cons n l ih => rw [List.map_cons, PyData.depthAll, ih, PyData.depth]; rfl
 unfold SeqAt.shaped dN
 rw [PyData.canLay0, PyData.depth, h1, h2]
 rfl
section
variable {X : Cx}
def rEqN (K : PySem.W.Frag) : R2 := fun x y H Q => ∃ a b, ∃ l m : List Nat, x = .ref a ∧ y = .ref b ∧ SqL K H a (nb l) ∧ SqL K H b (nb m) ∧ Q (.bl (decide (l = m))) H
def rNeN (K : PySem.W.Frag) : R2 := fun x y H Q => ∃ a b, ∃ l m : List Nat, x = .ref a ∧ y = .ref b ∧ SqL K H a (nb l) ∧ SqL K H b (nb m) ∧ Q (.bl (!decide (l = m))) H
theorem o_eqN (K : PySem.W.Frag) (hu : X.A.units + 64 < cLine) (hK : X.K = K := by rfl) : OpR X (compareOp .Eq) (rEqN K) := hK ▸ imp2 (op_eqD hu) fun x y H Q ⟨a, b, l, m, e1, e2, h1, h2, q⟩ => ⟨dN l, dN m, by rw [e1]; exact dp_n h1, by rw [e2]; exact dp_n h2, shaped_n _, shaped_n _, by rw [eqv_n]; exact q⟩
theorem o_neN (K : PySem.W.Frag) (hu : X.A.units + 64 < cLine) (hK : X.K = K := by rfl) : OpR X (compareOp .NotEq) (rNeN K) := hK ▸ imp2 (op_neD hu) fun x y H Q ⟨a, b, l, m, e1, e2, h1, h2, q⟩ => ⟨dN l, dN m, by rw [e1]; exact dp_n h1, by rw [e2]; exact dp_n h2, shaped_n _, shaped_n _, by rw [eqv_n]; exact q⟩
end
end Dw
namespace Dw
open PySem L2
theorem lc_fmz {K : PySem.W.Frag} {a D : Addr} {α : Type} {z : List α} {r : α → V} {g : TG} {tt : TT} {te : TE} {vs : List Nat} {σ : St} {H : Hp} {Qd : Hp → Prop} (p : α → Bool) (f : α → V) (ha : SqL K H a (z.map r)) (hD : H D = none) (hl : z.length ≤ 100000)
  (hs : ∀ x H' (Rn : Hp → Prop) (Ry : V → Hp → Prop), x ∈ z → Same H H' → (if p x = true then Ry (f x) H' else Rn H') → g (r x) (wipe σ vs) H' fun σ2 H2 => wipe σ2 vs = wipe σ vs ∧ tt σ2 H2 fun b H3 => if b = true then te σ2 H3 Ry else Rn H3)
  (hd : ∀ H', Same H H' → H' D = some (.lst ((z.filter p).map f)) → Qd H') :
  ∃ W : Nat → Nat → Hp → Prop, (∃ m, W 0 m (upd H D (.lst []))) ∧ ∀ i m H, W i m H →
   ((Itl K a).stop i H ∧ Qd H) ∨ ((Itl K a).go i H ∧ ∃ Nx : Hp → Prop, (∀ H', Nx H' → ∃ m', m' < m ∧ W (i + 1) m' H') ∧ ∀ x H', (Itl K a).yld i H x H' → g x (wipe σ vs) H' fun σ2 H2 => wipe σ2 vs = wipe σ vs ∧ tt σ2 H2 fun b H3 =>
    if b = true then te σ2 H3 fun y H4 => ∃ acc, H4 D = some (.lst acc) ∧ acc.length < sizeLine ∧ Nx (upd H4 D (.lst (acc ++ [y]))) else Nx H3) := by
 refine lc_list (xs := z.map r) (fun i H1 => H1 = upd H D (.lst (((z.take i).filter p).map f))) rfl (fun i H1 _ e => by rw [e]; exact (up hD).seq ha) (fun i x H1 hx e => ?_) fun H1 e => ?_
 ·subst e
  obtain ⟨y, hy, rfl⟩ : ∃ y, z[i]? = some y ∧ x = r y := by
   rw [List.getElem?_map] at hx
   cases e : z[i]? with
   | none => rw [e] at hx; cases hx
   | some n => rw [e] at hx; exact ⟨n, rfl, (Option.some.inj hx).symm⟩
  refine hs y _ _ _ (List.mem_of_getElem? hy) (up hD) ?_
  have et : z.take (i + 1) = z.take i ++ [y] := by rw [List.take_add_one, hy]; rfl
  cases hp : p y with
  | true =>
   rw [if_pos rfl]
   refine ⟨_, upd_same, small' ?_, ?_⟩
   ·rw [List.length_map]
    exact Nat.le_trans (List.length_filter_le _ _) (by rw [List.length_take]; omega)
   ·rw [upd_upd, et, List.filter_append, List.map_append, List.filter_cons_of_pos hp]
    rfl
  | false =>
   rw [if_neg Bool.false_ne_true, et, List.filter_append, List.filter_cons_of_neg (by rw [hp]; decide), List.filter_nil, List.append_nil]
 ·subst e
  rw [List.length_map, List.take_length]
  exact hd _ (up hD) upd_same
theorem lc_mapN {K : PySem.W.Frag} {a D : Addr} {l : List Nat} {g : TG} {te : TE} {vs : List Nat} {σ : St} {H : Hp} {Qd : Hp → Prop} (f : Nat → Nat) (ha : SqL K H a (nb l)) (hD : H D = none) (hl : l.length ≤ 100000)
  (hs : ∀ n H' (Ry : V → Hp → Prop), n ∈ l → Ry (nV (f n)) H' → g (nV n) (wipe σ vs) H' fun σ2 H2 => wipe σ2 vs = wipe σ vs ∧ te σ2 H2 Ry)
  (hd : ∀ H', Same H H' → Ls H' D (l.map f) → Qd H') :
  ∃ W : Nat → Nat → Hp → Prop, (∃ m, W 0 m (upd H D (.lst []))) ∧ ∀ i m H, W i m H →
   ((Itl K a).stop i H ∧ Qd H) ∨ ((Itl K a).go i H ∧ ∃ Nx : Hp → Prop, (∀ H', Nx H' → ∃ m', m' < m ∧ W (i + 1) m' H') ∧ ∀ x H', (Itl K a).yld i H x H' → g x (wipe σ vs) H' fun σ2 H2 => wipe σ2 vs = wipe σ vs ∧ tYes σ2 H2 fun b H3 =>
    if b = true then te σ2 H3 fun y H4 => ∃ acc, H4 D = some (.lst acc) ∧ acc.length < sizeLine ∧ Nx (upd H4 D (.lst (acc ++ [y]))) else Nx H3) := by
 refine lc_list (xs := nb l) (fun i H1 => H1 = upd H D (.lst (nb ((l.take i).map f)))) rfl (fun i H1 _ e => by rw [e]; exact (up hD).seq ha) (fun i x H1 hx e => ?_) fun H1 e => ?_
 ·subst e
  obtain ⟨n, hn, rfl⟩ : ∃ n, l[i]? = some n ∧ x = nV n := by
   rw [List.getElem?_map] at hx
   cases e : l[i]? with
   | none => rw [e] at hx; cases hx
   | some n => rw [e] at hx; exact ⟨n, rfl, (Option.some.inj hx).symm⟩
  refine hs n _ (fun y H4 => ∃ acc, H4 D = some (.lst acc) ∧ acc.length < sizeLine ∧ upd H4 D (.lst (acc ++ [y])) = upd H D (.lst (nb ((l.take (i + 1)).map f)))) (List.mem_of_getElem? hn) ⟨_, upd_same, small' ?_, ?_⟩
  ·rw [nb_length, List.length_map, List.length_take]
   omega
  ·rw [upd_upd, List.take_add_one, hn, List.map_append, nb_append]
   rfl
 ·subst e
  rw [nb_length, List.take_length]
  exact hd _ (up hD) upd_same
end Dw
namespace Dw
open PySem L2
def fsAttribute (v0 v1 v2 : V) : List (Str × V) := putF "value" v2 (putF "place" v1 (putF "kind" v0 []))
theorem fsAttribute_kind {v0 v1 v2 : V} : (fsAttribute v0 v1 v2).lookup ("kind" : Str) = some v0 := by
 unfold fsAttribute
 rw [lookup_putF, if_neg (by decide +kernel), lookup_putF, if_neg (by decide +kernel), lookup_putF, if_pos rfl]
theorem fsAttribute_place {v0 v1 v2 : V} : (fsAttribute v0 v1 v2).lookup ("place" : Str) = some v1 := by
 unfold fsAttribute
 rw [lookup_putF, if_neg (by decide +kernel), lookup_putF, if_pos rfl]
theorem fsAttribute_value {v0 v1 v2 : V} : (fsAttribute v0 v1 v2).lookup ("value" : Str) = some v2 := by
 unfold fsAttribute
 rw [lookup_putF, if_pos rfl]
def fsPacket (v0 v1 v2 v3 v4 : V) : List (Str × V) := putF "attributes" v4 (putF "authenticator" v3 (putF "number" v2 (putF "code" v1 (putF "data" v0 []))))
theorem fsPacket_data {v0 v1 v2 v3 v4 : V} : (fsPacket v0 v1 v2 v3 v4).lookup ("data" : Str) = some v0 := by
 unfold fsPacket
 rw [lookup_putF, if_neg (by decide +kernel), lookup_putF, if_neg (by decide +kernel), lookup_putF, if_neg (by decide +kernel), lookup_putF, if_neg (by decide +kernel), lookup_putF, if_pos rfl]
theorem fsPacket_code {v0 v1 v2 v3 v4 : V} : (fsPacket v0 v1 v2 v3 v4).lookup ("code" : Str) = some v1 := by
 unfold fsPacket
 rw [lookup_putF, if_neg (by decide +kernel), lookup_putF, if_neg (by decide +kernel), lookup_putF, if_neg (by decide +kernel), lookup_putF, if_pos rfl]
theorem fsPacket_number {v0 v1 v2 v3 v4 : V} : (fsPacket v0 v1 v2 v3 v4).lookup ("number" : Str) = some v2 := by
 unfold fsPacket
 rw [lookup_putF, if_neg (by decide +kernel), lookup_putF, if_neg (by decide +kernel), lookup_putF, if_pos rfl]
theorem fsPacket_authenticator {v0 v1 v2 v3 v4 : V} : (fsPacket v0 v1 v2 v3 v4).lookup ("authenticator" : Str) = some v3 := by
 unfold fsPacket
 rw [lookup_putF, if_neg (by decide +kernel), lookup_putF, if_pos rfl]
theorem fsPacket_attributes {v0 v1 v2 v3 v4 : V} : (fsPacket v0 v1 v2 v3 v4).lookup ("attributes" : Str) = some v4 := by
 unfold fsPacket
 rw [lookup_putF, if_pos rfl]
theorem fsPacket_no {v0 v1 v2 v3 v4 : V} (m : Str) (h0 : ¬ m = "data" := by decide +kernel) (h1 : ¬ m = "code" := by decide +kernel) (h2 : ¬ m = "number" := by decide +kernel) (h3 : ¬ m = "authenticator" := by decide +kernel) (h4 : ¬ m = "attributes" := by decide +kernel) : (fsPacket v0 v1 v2 v3 v4).lookup m = none := by
 unfold fsPacket
 rw [lookup_putF, if_neg h4, lookup_putF, if_neg h3, lookup_putF, if_neg h2, lookup_putF, if_neg h1, lookup_putF, if_neg h0]
 rfl
def fsSession (v0 v1 v2 : V) : List (Str × V) := putF "session_name" v2 (putF "user_name" v1 (putF "client" v0 []))
theorem fsSession_client {v0 v1 v2 : V} : (fsSession v0 v1 v2).lookup ("client" : Str) = some v0 := by
 unfold fsSession
 rw [lookup_putF, if_neg (by decide +kernel), lookup_putF, if_neg (by decide +kernel), lookup_putF, if_pos rfl]
theorem fsSession_user_name {v0 v1 v2 : V} : (fsSession v0 v1 v2).lookup ("user_name" : Str) = some v1 := by
 unfold fsSession
 rw [lookup_putF, if_neg (by decide +kernel), lookup_putF, if_pos rfl]
theorem fsSession_session_name {v0 v1 v2 : V} : (fsSession v0 v1 v2).lookup ("session_name" : Str) = some v2 := by
 unfold fsSession
 rw [lookup_putF, if_pos rfl]
theorem fsSession_no {v0 v1 v2 : V} (m : Str) (h0 : ¬ m = "client" := by decide +kernel) (h1 : ¬ m = "user_name" := by decide +kernel) (h2 : ¬ m = "session_name" := by decide +kernel) : (fsSession v0 v1 v2).lookup m = none := by
 unfold fsSession
 rw [lookup_putF, if_neg h2, lookup_putF, if_neg h1, lookup_putF, if_neg h0]
 rfl
def fsAnswered (v0 v1 v2 v3 v4 : V) : List (Str × V) := putF "given" v4 (putF "now" v3 (putF "authenticator" v2 (putF "number" v1 (putF "client" v0 []))))
theorem fsAnswered_client {v0 v1 v2 v3 v4 : V} : (fsAnswered v0 v1 v2 v3 v4).lookup ("client" : Str) = some v0 := by
 unfold fsAnswered
 rw [lookup_putF, if_neg (by decide +kernel), lookup_putF, if_neg (by decide +kernel), lookup_putF, if_neg (by decide +kernel), lookup_putF, if_neg (by decide +kernel), lookup_putF, if_pos rfl]
theorem fsAnswered_number {v0 v1 v2 v3 v4 : V} : (fsAnswered v0 v1 v2 v3 v4).lookup ("number" : Str) = some v1 := by
 unfold fsAnswered
 rw [lookup_putF, if_neg (by decide +kernel), lookup_putF, if_neg (by decide +kernel), lookup_putF, if_neg (by decide +kernel), lookup_putF, if_pos rfl]
theorem fsAnswered_authenticator {v0 v1 v2 v3 v4 : V} : (fsAnswered v0 v1 v2 v3 v4).lookup ("authenticator" : Str) = some v2 := by
 unfold fsAnswered
 rw [lookup_putF, if_neg (by decide +kernel), lookup_putF, if_neg (by decide +kernel), lookup_putF, if_pos rfl]
theorem fsAnswered_now {v0 v1 v2 v3 v4 : V} : (fsAnswered v0 v1 v2 v3 v4).lookup ("now" : Str) = some v3 := by
 unfold fsAnswered
 rw [lookup_putF, if_neg (by decide +kernel), lookup_putF, if_pos rfl]
theorem fsAnswered_given {v0 v1 v2 v3 v4 : V} : (fsAnswered v0 v1 v2 v3 v4).lookup ("given" : Str) = some v4 := by
 unfold fsAnswered
 rw [lookup_putF, if_pos rfl]
theorem fsAnswered_no {v0 v1 v2 v3 v4 : V} (m : Str) (h0 : ¬ m = "client" := by decide +kernel) (h1 : ¬ m = "number" := by decide +kernel) (h2 : ¬ m = "authenticator" := by decide +kernel) (h3 : ¬ m = "now" := by decide +kernel) (h4 : ¬ m = "given" := by decide +kernel) : (fsAnswered v0 v1 v2 v3 v4).lookup m = none := by
 unfold fsAnswered
 rw [lookup_putF, if_neg h4, lookup_putF, if_neg h3, lookup_putF, if_neg h2, lookup_putF, if_neg h1, lookup_putF, if_neg h0]
 rfl
def fsServer (v0 v1 v2 : V) : List (Str × V) := putF "answered" v2 (putF "sessions" v1 (putF "settings" v0 []))
theorem fsServer_settings {v0 v1 v2 : V} : (fsServer v0 v1 v2).lookup ("settings" : Str) = some v0 := by
 unfold fsServer
 rw [lookup_putF, if_neg (by decide +kernel), lookup_putF, if_neg (by decide +kernel), lookup_putF, if_pos rfl]
theorem fsServer_sessions {v0 v1 v2 : V} : (fsServer v0 v1 v2).lookup ("sessions" : Str) = some v1 := by
 unfold fsServer
 rw [lookup_putF, if_neg (by decide +kernel), lookup_putF, if_pos rfl]
theorem fsServer_answered {v0 v1 v2 : V} : (fsServer v0 v1 v2).lookup ("answered" : Str) = some v2 := by
 unfold fsServer
 rw [lookup_putF, if_pos rfl]
theorem fsServer_no {v0 v1 v2 : V} (m : Str) (h0 : ¬ m = "settings" := by decide +kernel) (h1 : ¬ m = "sessions" := by decide +kernel) (h2 : ¬ m = "answered" := by decide +kernel) : (fsServer v0 v1 v2).lookup m = none := by
 unfold fsServer
 rw [lookup_putF, if_neg h2, lookup_putF, if_neg h1, lookup_putF, if_neg h0]
 rfl
theorem fsServer_eq {v0 v1 v2 : V} : (fsServer v0 v1 v2) = [(("settings" : Str), v0), (("sessions" : Str), v1), (("answered" : Str), v2)] := by
 have h01 : ¬ (("settings" : Str) = "sessions") := by decide +kernel
 have h02 : ¬ (("settings" : Str) = "answered") := by decide +kernel
 have h12 : ¬ (("sessions" : Str) = "answered") := by decide +kernel
 unfold fsServer
 simp only [putF, h01, h02, h12, if_false]
theorem fsServer_len {v0 v1 v2 : V} : (fsServer v0 v1 v2).length < 1000 := by
 rw [fsServer_eq]
 show 3 < 1000
 decide
theorem fsServer_put_sessions {v0 v1 v2 x : V} : putF "sessions" x (fsServer v0 v1 v2) = fsServer v0 x v2 := by
 have h0 : ¬ (("settings" : Str) = "sessions") := by decide +kernel
 rw [fsServer_eq, fsServer_eq]
 simp only [putF, h0, if_false, if_true]
theorem fsServer_put_answered {v0 v1 v2 x : V} : putF "answered" x (fsServer v0 v1 v2) = fsServer v0 v1 x := by
 have h0 : ¬ (("settings" : Str) = "answered") := by decide +kernel
 have h1 : ¬ (("sessions" : Str) = "answered") := by decide +kernel
 rw [fsServer_eq, fsServer_eq]
 simp only [putF, h0, h1, if_false, if_true]
def fsUser (v0 v1 v2 : V) : List (Str × V) := putF "told" v2 (putF "limit" v1 (putF "password" v0 []))
theorem fsUser_password {v0 v1 v2 : V} : (fsUser v0 v1 v2).lookup ("password" : Str) = some v0 := by
 unfold fsUser
 rw [lookup_putF, if_neg (by decide +kernel), lookup_putF, if_neg (by decide +kernel), lookup_putF, if_pos rfl]
theorem fsUser_limit {v0 v1 v2 : V} : (fsUser v0 v1 v2).lookup ("limit" : Str) = some v1 := by
 unfold fsUser
 rw [lookup_putF, if_neg (by decide +kernel), lookup_putF, if_pos rfl]
theorem fsUser_told {v0 v1 v2 : V} : (fsUser v0 v1 v2).lookup ("told" : Str) = some v2 := by
 unfold fsUser
 rw [lookup_putF, if_pos rfl]
theorem fsUser_eq {v0 v1 v2 : V} : (fsUser v0 v1 v2) = [(("password" : Str), v0), (("limit" : Str), v1), (("told" : Str), v2)] := by
 have h01 : ¬ (("password" : Str) = "limit") := by decide +kernel
 have h02 : ¬ (("password" : Str) = "told") := by decide +kernel
 have h12 : ¬ (("limit" : Str) = "told") := by decide +kernel
 unfold fsUser
 simp only [putF, h01, h02, h12, if_false]
theorem fsUser_len {v0 v1 v2 : V} : (fsUser v0 v1 v2).length < 1000 := by
 rw [fsUser_eq]
 show 3 < 1000
 decide
theorem fsUser_put_limit {v0 v1 v2 x : V} : putF "limit" x (fsUser v0 v1 v2) = fsUser v0 x v2 := by
 have h0 : ¬ (("password" : Str) = "limit") := by decide +kernel
 rw [fsUser_eq, fsUser_eq]
 simp only [putF, h0, if_false, if_true]
def fsSettings (v0 v1 : V) : List (Str × V) := putF "users" v1 (putF "secrets" v0 [])
theorem fsSettings_secrets {v0 v1 : V} : (fsSettings v0 v1).lookup ("secrets" : Str) = some v0 := by
 unfold fsSettings
 rw [lookup_putF, if_neg (by decide +kernel), lookup_putF, if_pos rfl]
theorem fsSettings_users {v0 v1 : V} : (fsSettings v0 v1).lookup ("users" : Str) = some v1 := by
 unfold fsSettings
 rw [lookup_putF, if_pos rfl]
def fsReader (v0 v1 : V) : List (Str × V) := putF "place" v1 (putF "numbers" v0 [])
theorem fsReader_numbers {v0 v1 : V} : (fsReader v0 v1).lookup ("numbers" : Str) = some v0 := by
 unfold fsReader
 rw [lookup_putF, if_neg (by decide +kernel), lookup_putF, if_pos rfl]
theorem fsReader_place {v0 v1 : V} : (fsReader v0 v1).lookup ("place" : Str) = some v1 := by
 unfold fsReader
 rw [lookup_putF, if_pos rfl]
theorem fsReader_no {v0 v1 : V} (m : Str) (h0 : ¬ m = "numbers" := by decide +kernel) (h1 : ¬ m = "place" := by decide +kernel) : (fsReader v0 v1).lookup m = none := by
 unfold fsReader
 rw [lookup_putF, if_neg h1, lookup_putF, if_neg h0]
 rfl
theorem fsReader_eq {v0 v1 : V} : (fsReader v0 v1) = [(("numbers" : Str), v0), (("place" : Str), v1)] := by
 have h01 : ¬ (("numbers" : Str) = "place") := by decide +kernel
 unfold fsReader
 simp only [putF, h01, if_false]
theorem fsReader_len {v0 v1 : V} : (fsReader v0 v1).length < 1000 := by
 rw [fsReader_eq]
 show 2 < 1000
 decide
theorem fsReader_put_place {v0 v1 x : V} : putF "place" x (fsReader v0 v1) = fsReader v0 x := by
 have h0 : ¬ (("numbers" : Str) = "place") := by decide +kernel
 rw [fsReader_eq, fsReader_eq]
 simp only [putF, h0, if_false, if_true]
def fsPorter (v0 : V) : List (Str × V) := putF "server" v0 []
theorem fsPorter_server {v0 : V} : (fsPorter v0).lookup ("server" : Str) = some v0 := by
 unfold fsPorter
 rw [lookup_putF, if_pos rfl]
theorem fsPorter_no {v0 : V} (m : Str) (h0 : ¬ m = "server" := by decide +kernel) : (fsPorter v0).lookup m = none := by
 unfold fsPorter
 rw [lookup_putF, if_neg h0]
 rfl
theorem fsPorter_eq {v0 : V} : (fsPorter v0) = [(("server" : Str), v0)] := by
 unfold fsPorter
 simp only [putF, if_false]
theorem fsPorter_len {v0 : V} : (fsPorter v0).length < 1000 := by
 rw [fsPorter_eq]
 show 1 < 1000
 decide
theorem fsPorter_put_server {v0 x : V} : putF "server" x (fsPorter v0) = fsPorter x := by
 rw [fsPorter_eq, fsPorter_eq]
 simp only [putF, if_false, if_true]
end Dw
namespace Dw
open PySem L2 Sn37
abbrev By (l : List Nat) : Prop := ∀ c ∈ l, c < 256
section
variable {P : Program} {w : World} {K : PySem.W.Frag} {mg : Str → Option Value} {base : Heap} {t : Adr}
def spLow : Sp := fun vs H Q _ => ∃ n k : Nat, vs = [nV n, nV k] ∧ k ≤ 8 ∧ NewL H (leBytes k n) Q
theorem sc_low : FnScope ["number", "size", "place"] ["number", "size"] (defScope (top 5)) := ⟨rfl, rfl, rfl, by decide +kernel, rfl, by decide +kernel, by decide +kernel⟩
theorem leBytes_succ (i n : Nat) : leBytes (i + 1) n = leBytes i n ++ [n / 256 ^ i % 256] := by
 unfold leBytes
 rw [List.range_succ, List.map_append]
 rfl
theorem pow256 (i : Nat) : 2 ^ (8 * i) = 256 ^ i := by rw [Nat.pow_mul]
theorem ok_low (T : Txt K mg t) : FnOk P w K mg base CX0 1 t.low_first.a t.low_first.fd ["number", "size"] spLow := by
 refine T.digest.low_first.fn.ok sc_low (fun vs H Q E h => ?_) (fun cdv A outer s H vs Q E hr h => ?_)
 ·obtain ⟨n, k, rfl, _⟩ := h
  rfl
 ·obtain ⟨n, k, rfl, hk, q⟩ := h
  refine ⟨_, pss_one (ps_ret (pe_lc (own := [("place", 2)]) rfl sc_low.nd (pi_range1 rfl (bl_in T "range") (pa_cons (pv 1) pa_nil)) (blkOk_by (by kernel_rfl)) (fun _ _ _ _ _ => pg_name (i := 2) sc_low.nd rfl (Or.inl rfl)) (fun _ _ _ _ _ => pts_nil)
   (fun _ _ _ _ _ => pe_op o_and (pe_op o_shr (pv 0) (pe_op o_mul pe_int (pv 2))) pe_int))), ?_⟩
  refine ⟨_, rfl, (k : Int), rfl, by omega, by omega, fun D hD => ?_⟩
  have el : ((k : Int)).toNat = k := by omega
  refine lc_range (fun i H1 => H1 = upd H D (.lst (nb (leBytes i n)))) rfl ?_ fun H1 e => ?_
  ·rintro i _ hi rfl
   have hi' : i < k := by omega
   refine ⟨rfl, _, rfl, _, rfl, 8, i, rfl, by rw [Int.zero_add], .inl (by decide), n, 8 * i, rfl, rfl, _, 255, rfl, rfl, _, upd_same, ?_, ?_⟩
   ·rw [nb_length, leBytes_length]
    exact small' (by omega)
   ·dsimp only
    rw [upd_upd, leBytes_succ, nb_append, pow256, and_255]
    rfl
  ·rw [e, el]
   exact q D _ hD (up hD) upd_same
def spPad : Sp := fun vs H Q _ => ∃ a, ∃ m : List Nat, vs = [.ref a] ∧ Ls H a m ∧ m.length ≤ 50000 ∧ NewL H (padded m) Q
theorem sc_pad : FnScope ["message", "zeros"] ["message"] (defScope (top 6)) := ⟨rfl, rfl, rfl, by decide +kernel, rfl, by decide +kernel, by decide +kernel⟩
theorem ok_pad (T : Txt K mg t) : FnOk P w K mg base CX0 2 t.padded.a t.padded.fd ["message"] spPad := by
 refine T.digest.padded.fn.ok sc_pad (fun vs H Q E h => ?_) (fun cdv A outer s H vs Q E hr h => ?_)
 ·obtain ⟨a, m, rfl, _⟩ := h
  rfl
 ·obtain ⟨a, m, rfl, hm, hl, q⟩ := h
  refine ⟨_, pss_cons (ps_set (i := 1) sc_pad.nd rfl (Or.inl rfl) (pe_op op_mod (pe_op op_sub pe_int (pLen T (pv 0))) pe_int))
   (pss_one (ps_ret (pe_op o_cat (pe_op o_cat (pe_op o_cat (pv 0) (pe_lst (pa_cons pe_int pa_nil))) (pe_op o_rep (pe_lst (pa_cons pe_int pa_nil)) (pv 1)))
    (callN (ok_low T) T.digest.low_first hr (pa_cons (pe_op o_mul pe_int (pLen T (pv 0))) (pa_cons pe_int pa_nil)))))), ?_⟩
  refine ⟨_, rfl, a, m, rfl, SqL.of hm, _, _, rfl, rfl, _, _, rfl, rfl, (by show (0 : Int) < 64; decide), ?_⟩
  have hz0 : 0 ≤ (55 - (m.length : Int)) % 64 := Int.emod_nonneg _ (by decide)
  have hz1 : (55 - (m.length : Int)) % 64 < 64 := Int.emod_lt_of_pos _ (by decide)
  refine ⟨_, rfl, (by show 1 ≤ sizeLine; decide), fun p1 n1 => ?_⟩
  have s1 : Same H (upd H p1 (.lst (nb [128]))) := up n1
  refine ⟨a, p1, m, [128], rfl, rfl, s1 _ _ hm, upd_same, (by show m.length + 1 ≤ 200000; omega), fun p2 H2 n2 s2 l2 => ?_⟩
  refine ⟨(by show 1 ≤ sizeLine; decide), fun p3 n3 => ?_⟩
  have s3 : Same H2 (upd H2 p3 (.lst (nb [0]))) := up n3
  refine ⟨_, rfl, p3, 0, ((55 - (m.length : Int)) % 64).toNat, _, rfl, rfl, rfl, by omega, by omega, upd_same, fun p4 H4 n4 s4 l4 => ?_⟩
  refine ⟨p2, p4, _, _, rfl, rfl, s4 _ _ (s3 _ _ l2), l4, ?_, fun p5 H5 n5 s5 l5 => ?_⟩
  ·rw [List.length_append, List.length_replicate, List.length_singleton]
   omega
  have m5 := s5 _ _ (s4 _ _ (s3 _ _ (s2 _ _ (s1 _ _ hm))))
  refine ⟨_, rfl, a, m, rfl, SqL.of m5, 8, m.length, rfl, rfl, .inl (by decide), 8 * m.length, 8, rfl, by decide, fun p6 H6 n6 s6 l6 => ?_⟩
  refine ⟨p5, p6, _, _, rfl, rfl, s6 _ _ l5, l6, ?_, fun p7 H7 n7 s7 l7 => ?_⟩
  ·rw [List.length_append, List.length_append, List.length_replicate, List.length_singleton, leBytes_length]
   omega
  have sall : Same H H7 := ((((((s1.trans s2).trans s3).trans s4).trans s5).trans s6).trans s7)
  refine q p7 H7 ?_ sall (by rw [padded_code]; exact l7)
  exact ((((((s1.trans s2).trans s3).trans s4).trans s5).trans s6)).free n7
def spWords : Sp := fun vs H Q _ => ∃ a, ∃ b : List Nat, vs = [.ref a] ∧ SqL K H a (nb b) ∧ b.length = 64 ∧ By b ∧ NewL H (wordsOf b) Q
end
end Dw
namespace Dw
open PySem L2 Sn37
section
variable {P : Program} {w : World} {K : PySem.W.Frag} {mg : Str → Option Value} {base : Heap} {t : Adr}
theorem sc_words : FnScope ["block", "place"] ["block"] (defScope (top 7)) := ⟨rfl, rfl, rfl, by decide +kernel, rfl, by decide +kernel, by decide +kernel⟩
def wordAt (b : Bytes) (i : Nat) : Nat := le ((b.drop (4 * i)).take 4)
theorem four_at {b : Bytes} {i : Nat} (hl : b.length = 64) (hi : i < 16) : ∃ x y z u, b[4 * i]? = some x ∧ b[4 * i + 1]? = some y ∧ b[4 * i + 2]? = some z ∧ b[4 * i + 3]? = some u ∧ (b.drop (4 * i)).take 4 = [x, y, z, u] := by
 have g : ∀ j, j < 64 → b[j]? = some (b.getD j 0) := fun j hj => by rw [List.getD_eq_getElem?_getD, List.getElem?_eq_getElem (by omega)]; rfl
 refine ⟨_, _, _, _, g _ (by omega), g _ (by omega), g _ (by omega), g _ (by omega), ?_⟩
 apply List.ext_getElem?
 intro k
 rw [List.getElem?_take, List.getElem?_drop]
 match k with
 | 0 => exact g _ (by omega)
 | 1 => exact g _ (by omega)
 | 2 => exact g _ (by omega)
 | 3 => exact g _ (by omega)
 | k + 4 => rw [if_neg (by omega)]; rfl
theorem ok_words (T : Txt K mg t) : FnOk P w K mg base CX0 1 t.words_of.a t.words_of.fd ["block"] (spWords (K := K)) := by
 refine T.digest.words_of.fn.ok sc_words (fun vs H Q E h => ?_) (fun cdv A outer s H vs Q E hr h => ?_)
 ·obtain ⟨a, b, rfl, _⟩ := h
  rfl
 ·obtain ⟨a, b, rfl, hb, hl, hby, q⟩ := h
  refine ⟨_, pss_one (ps_ret (pe_lc (own := [("place", 1)]) rfl sc_words.nd (pi_range3 rfl (bl_in T "range") (pa_cons pe_int (pa_cons pe_int (pa_cons pe_int pa_nil)))) (blkOk_by (by kernel_rfl)) (fun _ _ _ _ _ => pg_name (i := 1) sc_words.nd rfl (Or.inl rfl)) (fun _ _ _ _ _ => pts_nil)
   (fun _ _ _ _ _ => pe_op o_or (pe_op o_or (pe_op o_or (pe_ix (ix_nk K) (pv 0) (pv 1) (fun _ _ => rfl)) (pe_op o_shl (pe_ix (ix_nk K) (pv 0) (pe_op o_add (pv 1) pe_int) (fun _ _ => rfl)) pe_int))
    (pe_op o_shl (pe_ix (ix_nk K) (pv 0) (pe_op o_add (pv 1) pe_int) (fun _ _ => rfl)) pe_int)) (pe_op o_shl (pe_ix (ix_nk K) (pv 0) (pe_op o_add (pv 1) pe_int) (fun _ _ => rfl)) pe_int)))), ?_⟩
  refine ⟨0, 64, 4, 16, rfl, ⟨by decide, by decide, by decide +kernel, by decide +kernel⟩, fun D hD => ?_⟩
  refine lc_gen (n := 16) (fun i H1 => H1 = upd H D (.lst (nb ((List.range i).map (wordAt b))))) rfl (fun i H1 hi _ => hi) (fun H1 _ => Nat.le_refl _) ?_ fun H1 e => ?_
  ·rintro i _ x H' hi rfl ⟨rfl, e⟩
   have e' : x = nV (4 * i) := by rw [e]; show V.int _ = V.int _; congr 1; omega
   subst e'
   obtain ⟨x0, x1, x2, x3, g0, g1, g2, g3, gt⟩ := four_at hl hi
   have hb' : SqL K (upd H D (.lst (nb ((List.range i).map (wordAt b))))) a (nb b) := (up hD).seq hb
   have hx : x0 < 256 ∧ x1 < 256 ∧ x2 < 256 ∧ x3 < 256 := ⟨hby _ (List.mem_of_getElem? g0), hby _ (List.mem_of_getElem? g1), hby _ (List.mem_of_getElem? g2), hby _ (List.mem_of_getElem? g3)⟩
   refine ⟨rfl, _, rfl, _, rfl, a, b, 4 * i, x0, rfl, rfl, hb', g0, _, rfl, _, rfl, 4 * i, 1, rfl, rfl, a, b, 4 * i + 1, x1, rfl, rfl, hb', g1, x1, 8, rfl, rfl, ⟨by omega, by decide⟩, x0, _, rfl, rfl,
    _, rfl, _, rfl, 4 * i, 2, rfl, rfl, a, b, 4 * i + 2, x2, rfl, rfl, hb', g2, x2, 16, rfl, rfl, ⟨by omega, by decide⟩, _, _, rfl, rfl,
    _, rfl, _, rfl, 4 * i, 3, rfl, rfl, a, b, 4 * i + 3, x3, rfl, rfl, hb', g3, x3, 24, rfl, rfl, ⟨by omega, by decide⟩, _, _, rfl, rfl, _, upd_same, ?_, ?_⟩
   ·rw [nb_length, List.length_map, List.length_range]
    exact small' (by omega)
   ·dsimp only
    rw [upd_upd, List.range_succ, List.map_append, nb_append, word_or hx.1 hx.2.1 hx.2.2.1 hx.2.2.2, ← gt]
    rfl
  ·rw [e]
   exact q D _ hD (up hD) upd_same
abbrev w4 (v : W4) : List Nat := [v.1, v.2.1, v.2.2.1, v.2.2.2]
def spStir : Sp := fun vs H Q _ => ∃ a b, ∃ (v : W4) (m : List Nat), vs = [.ref a, .ref b] ∧ SqL K H a (nb (w4 v)) ∧ SqL K H b (nb m) ∧ InW v ∧ m.length = 16 ∧ (∀ x ∈ m, x < 4294967296) ∧ NewL H (w4 (stir v m)) Q
abbrev nStir : List Str := ["state", "block", "a", "b", "c", "d", "step", "part", "mixed", "chosen", "total", "turn", "old", "new"]
theorem sc_stir : FnScope nStir ["state", "block"] (defScope (top 8)) := ⟨rfl, rfl, rfl, by decide +kernel, rfl, by decide +kernel, by decide +kernel⟩
end
end Dw
namespace Dw
open PySem L2 Sn37
section
variable {P : Program} {w : World} {K : PySem.W.Frag} {mg : Str → Option Value} {base : Heap} {t : Adr}
theorem sines_get {i : Nat} (h : i < 64) : SINES[i]? = some (SINES.getD i 0) := by
 rw [List.getD_eq_getElem?_getD, List.getElem?_eq_getElem (show i < SINES.length from h)]; rfl
theorem turns_get {i : Nat} (h : i < 16) : TURNS[i]? = some (TURNS.getD i 0) := by
 rw [List.getD_eq_getElem?_getD, List.getElem?_eq_getElem (show i < TURNS.length from h)]; rfl
theorem turnIx_lt {i : Nat} (h : i < 64) : 4 * (i / 16) + i % 4 < 16 := by omega
theorem turn_nums {m : List Nat} {v : W4} {i mx ch : Nat} (hi : i < 64) (hv : InW v) (e1 : mx = mixP (i / 16) v.2.1 v.2.2.1 v.2.2.2) (e2 : ch = chosenP (i / 16) i) :
  step m v i = (v.2.2.2, (v.2.1 + ((((v.1 + mx + SINES.getD i 0 + m.getD ch 0) &&& 4294967295) * 2 ^ TURNS.getD (4 * (i / 16) + i % 4) 0) ||| (((v.1 + mx + SINES.getD i 0 + m.getD ch 0) &&& 4294967295) / 2 ^ (32 - TURNS.getD (4 * (i / 16) + i % 4) 0)))) &&& 4294967295, v.2.1, v.2.2.1) := by
 rw [step_code hi hv, e1, e2]
 rfl
theorem get_of {m : List Nat} {i : Nat} (h : i < m.length) : m[i]? = some (m.getD i 0) := by
 rw [List.getD_eq_getElem?_getD, List.getElem?_eq_getElem h]; rfl
theorem for0 {n : Nat} {g : TG} {tb : TS} {D : Ends} {σ : L2.St} {H : Hp} (Pv : Nat → L2.St → Hp → Prop) (h0 : Pv 0 σ H)
  (hs : ∀ i σ H, i < n → Pv i σ H → g (nV i) σ H fun σ2 H2 => tb { D with nx := Pv (i + 1), ct := Pv (i + 1), bk := D.nx } σ2 H2) (hd : ∀ σ H, Pv n σ H → D.nx σ H) :
  ∃ W : Nat → Nat → L2.St → Hp → Prop, (∃ m, W 0 m σ H) ∧ ∀ i m σ H, W i m σ H →
   ((Itr 0 n).stop i H ∧ D.nx σ H) ∨ ((Itr 0 n).go i H ∧ ∃ N : L2.St → Hp → Prop, (∀ σ' H', N σ' H' → ∃ m', m' < m ∧ W (i + 1) m' σ' H') ∧ ∀ x H', (Itr 0 n).yld i H x H' → g x σ H' fun σ2 H2 => tb { D with nx := N, ct := N, bk := D.nx } σ2 H2) :=
 for_range Pv h0 (fun i σ H hi p => by rw [Int.zero_add]; exact hs i σ H hi p) hd
theorem ok_stir (T : Txt K mg t) : FnOk P w K mg base CX0 1 t.stirred.a t.stirred.fd ["state", "block"] (spStir (K := K)) := by
 refine T.digest.stirred.fn.ok sc_stir (fun vs H Q E h => ?_) (fun cdv A outer s H vs Q E hr h => ?_)
 ·obtain ⟨a, b, v, m, rfl, _⟩ := h
  rfl
 ·obtain ⟨a, b, v, m, rfl, hS, hB, hv, hml, hm, q⟩ := h
  have tS : SqT K H t.aSINES (nb SINES) := T.digest.tSINES H
  have tT : SqT K H t.aTURNS (nb TURNS) := T.digest.tTURNS H
  refine ⟨_, (pss_cons (ps_set (i := 2) sc_stir.nd rfl (Or.inl rfl) (pe_ix (ix_nk K) (pv 0) pe_int (fun _ _ => rfl)))
   (pss_cons (ps_set (i := 3) sc_stir.nd rfl (Or.inl rfl) (pe_ix (ix_nk K) (pv 0) pe_int (fun _ _ => rfl)))
   (pss_cons (ps_set (i := 4) sc_stir.nd rfl (Or.inl rfl) (pe_ix (ix_nk K) (pv 0) pe_int (fun _ _ => rfl)))
   (pss_cons (ps_set (i := 5) sc_stir.nd rfl (Or.inl rfl) (pe_ix (ix_nk K) (pv 0) pe_int (fun _ _ => rfl)))
   (pss_cons (ps_for PassesOwn.never rfl (pi_range1 rfl (bl_in T "range") (pa_cons pe_int pa_nil)) (pg_name (i := 6) sc_stir.nd rfl (Or.inl rfl))
   (pss_cons (ps_set (i := 7) sc_stir.nd rfl (Or.inl rfl) (pe_op o_div (pv 6) pe_int))
    (pss_cons (ps_if (pt_cmpR o_eq (pv 7) pe_int (nomark _))
    (pss_cons (ps_set (i := 8) sc_stir.nd rfl (Or.inl rfl) (pe_op o_or (pe_op o_and (pv 3) (pv 4)) (pe_op o_and (pe_op o_xor (pv 3) (gN T "MASK" 4294967295)) (pv 5))))
     (pss_one (ps_set (i := 9) sc_stir.nd rfl (Or.inl rfl) (pv 6))))
    (pss_one (ps_if (pt_cmpR o_eq (pv 7) pe_int (nomark _))
     (pss_cons (ps_set (i := 8) sc_stir.nd rfl (Or.inl rfl) (pe_op o_or (pe_op o_and (pv 5) (pv 3)) (pe_op o_and (pe_op o_xor (pv 5) (gN T "MASK" 4294967295)) (pv 4))))
      (pss_one (ps_set (i := 9) sc_stir.nd rfl (Or.inl rfl) (pe_op o_mod (pe_op o_add (pe_op o_mul pe_int (pv 6)) pe_int) pe_int))))
     (pss_one (ps_if (pt_cmpR o_eq (pv 7) pe_int (nomark _))
      (pss_cons (ps_set (i := 8) sc_stir.nd rfl (Or.inl rfl) (pe_op o_xor (pe_op o_xor (pv 3) (pv 4)) (pv 5)))
       (pss_one (ps_set (i := 9) sc_stir.nd rfl (Or.inl rfl) (pe_op o_mod (pe_op o_add (pe_op o_mul pe_int (pv 6)) pe_int) pe_int))))
      (pss_cons (ps_set (i := 8) sc_stir.nd rfl (Or.inl rfl) (pe_op o_xor (pv 4) (pe_op o_or (pv 3) (pe_op o_xor (pv 5) (gN T "MASK" 4294967295)))))
       (pss_one (ps_set (i := 9) sc_stir.nd rfl (Or.inl rfl) (pe_op o_mod (pe_op o_mul pe_int (pv 6)) pe_int)))))))))
    (pss_cons (ps_set (i := 10) sc_stir.nd rfl (Or.inl rfl) (pe_op o_and (pe_op o_add (pe_op o_add (pe_op o_add (pv 2) (pv 8)) (pe_ix (ix_tk K) (gTp T.digest.SINES) (pv 6) (fun _ _ => rfl))) (pe_ix (ix_nk K) (pv 1) (pv 9) (fun _ _ => rfl))) (gN T "MASK" 4294967295)))
    (pss_cons (ps_set (i := 11) sc_stir.nd rfl (Or.inl rfl) (pe_ix (ix_tk K) (gTp T.digest.TURNS) (pe_op o_add (pe_op o_mul pe_int (pv 7)) (pe_op o_mod (pv 6) pe_int)) (fun _ _ => rfl)))
    (pss_cons (ps_set (i := 2) sc_stir.nd rfl (Or.inl rfl) (pv 5))
    (pss_cons (ps_set (i := 5) sc_stir.nd rfl (Or.inl rfl) (pv 4))
    (pss_cons (ps_set (i := 4) sc_stir.nd rfl (Or.inl rfl) (pv 3))
    (pss_one (ps_set (i := 3) sc_stir.nd rfl (Or.inl rfl) (pe_op o_and (pe_op o_add (pv 3) (pe_op o_or (pe_op o_shl (pv 10) (pv 11)) (pe_op o_shr (pv 10) (pe_op o_sub pe_int (pv 11))))) (gN T "MASK" 4294967295))))))))))))
   (pss_one (ps_ret (pe_lc (own := [("old", 12), ("new", 13)]) rfl sc_stir.nd (pi_zip rfl (bl_in T "zip") (pa_cons (pv 0) (pa_cons (pe_lst (pa_cons (pv 2) (pa_cons (pv 3) (pa_cons (pv 4) (pa_cons (pv 5) pa_nil))))) pa_nil))) (blkOk_by (by kernel_rfl)) (fun _ _ _ _ _ => (pgTupK (n := 2) K rfl (pgs_cons (pg_name (i := 12) sc_stir.nd rfl (Or.inl rfl)) (pgs_cons (pg_name (i := 13) sc_stir.nd rfl (Or.inl rfl)) pgs_nil)))) (fun _ _ _ _ _ => pts_nil) (fun _ _ _ _ _ => (pe_op o_and (pe_op o_add (pv 12) (pv 13)) (gN T "MASK" 4294967295))))))))))), ?_⟩
  refine ⟨_, rfl, a, w4 v, 0, _, rfl, rfl, hS, rfl, _, rfl, a, w4 v, 1, _, rfl, rfl, hS, rfl, _, rfl, a, w4 v, 2, _, rfl, rfl, hS, rfl, _, rfl, a, w4 v, 3, _, rfl, rfl, hS, rfl, ?_⟩
  refine ⟨64, rfl, by decide, by decide, for0 (n := 64) (fun i σ H1 => H1 = H ∧ ∃ o6 o7 o8 o9 o10 o11, σ = [some (.ref a), some (.ref b), some (nV (turnsAt m v i).1), some (nV (turnsAt m v i).2.1), some (nV (turnsAt m v i).2.2.1), some (nV (turnsAt m v i).2.2.2), o6, o7, o8, o9, o10, o11, none, none])
   ⟨rfl, _, _, _, _, _, _, rfl⟩ ?_ ?_⟩
  ·rintro i σ H1 hi ⟨rfl, o6, o7, o8, o9, o10, o11, rfl⟩
   have hw := turnsAt_in (m := m) hv i (by omega)
   have hch := chosenP_lt hi
   have hix := turnIx_lt hi
   have ht23 : TURNS.getD (4 * (i / 16) + i % 4) 0 ≤ 23 := turnP_le i hi
   have tot : ∀ y : Nat, y &&& 4294967295 < 2 ^ 63 := fun y => by rw [and_mask]; exact Nat.lt_trans (Nat.mod_lt _ (by decide)) (by decide)
   have nx := turnsAt_succ m v i
   generalize turnsAt m v (i + 1) = u' at nx ⊢
   generalize turnsAt m v i = u at hw nx ⊢
   obtain ⟨u1, u2, u3, u4⟩ := u
   refine ⟨_, rfl, i, 16, rfl, rfl, ⟨by decide, by decide⟩, _, rfl, i / 16, 0, rfl, rfl, _, rfl, ite2 (fun h0 => ?b0) (fun h0 => ⟨_, rfl, i / 16, 1, rfl, rfl, _, rfl, ite2 (fun h1 => ?b1) (fun h1 => ⟨_, rfl, i / 16, 2, rfl, rfl, _, rfl, ite2 (fun h2 => ?b2) (fun h2 => ?b3)⟩)⟩)⟩
   case' b0 =>
    have h0 := of_decide_eq_true h0
    have em : u2 &&& u3 ||| (u2 ^^^ 4294967295) &&& u4 = mixP (i / 16) u2 u3 u4 := by unfold mixP; rw [if_pos h0]
    have ec : i = chosenP (i / 16) i := by unfold chosenP; rw [if_pos h0]
    refine ⟨_, rfl, _, rfl, u2, u3, rfl, rfl, _, rfl, u2, 4294967295, rfl, rfl, _, rfl, _, u4, rfl, rfl, _, _, rfl, rfl, _, rfl, ?_⟩
   case' b1 =>
    have h0 : ¬ i / 16 = 0 := fun z => h0 (decide_eq_true z)
    have h1 := of_decide_eq_true h1
    have em : u4 &&& u2 ||| (u4 ^^^ 4294967295) &&& u3 = mixP (i / 16) u2 u3 u4 := by unfold mixP; rw [if_neg h0, if_pos h1]
    have ec : (5 * i + 1) % 16 = chosenP (i / 16) i := by unfold chosenP; rw [if_neg h0, if_pos h1]
    refine ⟨_, rfl, _, rfl, u4, u2, rfl, rfl, _, rfl, u4, 4294967295, rfl, rfl, _, rfl, _, u3, rfl, rfl, _, _, rfl, rfl, _, rfl, 5, i, rfl, rfl, .inl (by decide), 5 * i, 1, rfl, rfl, 5 * i + 1, 16, rfl, rfl, (by show (0 : Nat) < 16; decide), ?_⟩
   case' b2 =>
    have h0 : ¬ i / 16 = 0 := fun z => h0 (decide_eq_true z)
    have h1 : ¬ i / 16 = 1 := fun z => h1 (decide_eq_true z)
    have h2 := of_decide_eq_true h2
    have em : (u2 ^^^ u3) ^^^ u4 = mixP (i / 16) u2 u3 u4 := by unfold mixP; rw [if_neg h0, if_neg h1, if_pos h2]
    have ec : (3 * i + 5) % 16 = chosenP (i / 16) i := by unfold chosenP; rw [if_neg h0, if_neg h1, if_pos h2]
    refine ⟨_, rfl, _, rfl, u2, u3, rfl, rfl, _, rfl, _, u4, rfl, rfl, _, rfl, 3, i, rfl, rfl, .inl (by decide), 3 * i, 5, rfl, rfl, 3 * i + 5, 16, rfl, rfl, (by show (0 : Nat) < 16; decide), ?_⟩
   case' b3 =>
    have h0 : ¬ i / 16 = 0 := fun z => h0 (decide_eq_true z)
    have h1 : ¬ i / 16 = 1 := fun z => h1 (decide_eq_true z)
    have h2 : ¬ i / 16 = 2 := fun z => h2 (decide_eq_true z)
    have em : u3 ^^^ (u2 ||| (u4 ^^^ 4294967295)) = mixP (i / 16) u2 u3 u4 := by unfold mixP; rw [if_neg h0, if_neg h1, if_neg h2]
    have ec : 7 * i % 16 = chosenP (i / 16) i := by unfold chosenP; rw [if_neg h0, if_neg h1, if_neg h2]
    refine ⟨_, rfl, _, rfl, _, rfl, u4, 4294967295, rfl, rfl, u2, _, rfl, rfl, u3, _, rfl, rfl, _, rfl, 7, i, rfl, rfl, .inl (by decide), 7 * i, 16, rfl, rfl, (by show (0 : Nat) < 16; decide), ?_⟩
   all_goals
    refine ⟨_, rfl, _, rfl, u1, _, rfl, rfl, _, rfl, t.aSINES, SINES, i, _, rfl, rfl, tS, sines_get hi, _, _, rfl, rfl, _, rfl, _, rfl, b, m, _, _, rfl, rfl, hB, get_of (by rw [hml, ec]; exact hch), _, _, rfl, rfl, _, 4294967295, rfl, rfl, ?_⟩
    refine ⟨_, rfl, 4, i / 16, rfl, rfl, .inl (by decide), _, rfl, i, 4, rfl, rfl, (by show (0 : Nat) < 4; decide), 4 * (i / 16), i % 4, rfl, rfl, t.aTURNS, TURNS, 4 * (i / 16) + i % 4, _, rfl, rfl, tT, turns_get hix, ?_⟩
    refine ⟨_, rfl, _, rfl, _, rfl, _, rfl, _, rfl, _, rfl, _, _, rfl, rfl, ⟨tot _, by omega⟩, _, rfl, _, rfl, 32, _, rfl, rfl, by omega, _, _, rfl, rfl, _, _, rfl, rfl, u2, _, rfl, rfl, _, 4294967295, rfl, rfl, ?_⟩
    rw [turn_nums hi hw em ec] at nx
    subst nx
    exact ⟨rfl, _, _, _, _, _, _, rfl⟩
  ·rintro σ H1 ⟨rfl, o6, o7, o8, o9, o10, o11, rfl⟩
   have hw := turnsAt_in (m := m) hv 64 (Nat.le_refl _)
   have est : stir v m = ((v.1 + (turnsAt m v 64).1) % W, (v.2.1 + (turnsAt m v 64).2.1) % W, (v.2.2.1 + (turnsAt m v 64).2.2.1) % W, (v.2.2.2 + (turnsAt m v 64).2.2.2) % W) := rfl
   generalize turnsAt m v 64 = u at hw est ⊢
   obtain ⟨u1, u2, u3, u4⟩ := u
   obtain ⟨v1, v2, v3, v4⟩ := v
   refine ⟨_, rfl, _, rfl, _, rfl, _, rfl, _, rfl, (by show 4 ≤ sizeLine; decide), fun p1 n1 => ?_⟩
   have s1 : Same H1 (upd H1 p1 (.lst (nb [u1, u2, u3, u4]))) := up n1
   refine ⟨a, p1, nb [v1, v2, v3, v4], nb [u1, u2, u3, u4], rfl, s1.seq hS, SqL.of upd_same, fun D hD => ?_⟩
   refine lc_gen (n := 4) (fun i H2 => Same H1 H2 ∧ Ls H2 p1 [u1, u2, u3, u4] ∧ Ls H2 D (([(v1 + u1) % W, (v2 + u2) % W, (v3 + u3) % W, (v4 + u4) % W]).take i)) ?_ ?_ ?_ ?_ ?_
   ·exact ⟨s1.trans (up hD), (up hD) _ _ upd_same, upd_same⟩
   ·rintro i H2 hi ⟨s2, l2, l3⟩
    have g1 : ∃ x, (nb [v1, v2, v3, v4])[i]? = some x := ⟨_, List.getElem?_eq_getElem (show i < (nb [v1, v2, v3, v4]).length from hi)⟩
    have g2 : ∃ x, (nb [u1, u2, u3, u4])[i]? = some x := ⟨_, List.getElem?_eq_getElem (show i < (nb [u1, u2, u3, u4]).length from hi)⟩
    obtain ⟨x, g1⟩ := g1
    obtain ⟨y, g2⟩ := g2
    exact ⟨_, _, x, y, s2.seq hS, SqL.of l2, g1, g2⟩
   ·rintro H2 ⟨s2, l2, l3⟩
    exact ⟨_, _, s2.seq hS, SqL.of l2, .inl (Nat.le_refl _)⟩
   ·rintro i H2 x H3 hi ⟨s2, l2, l3⟩ ⟨Tt, x1, y1, rfl, nT, rfl, k1, k2⟩
    have k1 := k1 _ (s2.seq hS)
    have k2 := k2 _ (SqL.of l2)
    obtain ⟨xn, yn, ex, ey, ez⟩ : ∃ xn yn : Nat, x1 = nV xn ∧ y1 = nV yn ∧ ([(v1 + u1) % W, (v2 + u2) % W, (v3 + u3) % W, (v4 + u4) % W] : List Nat)[i]? = some ((xn + yn) &&& 4294967295) := by
     match i, hi, k1, k2 with
     | 0, _, k1, k2 => exact ⟨v1, u1, (Option.some.inj k1).symm, (Option.some.inj k2).symm, by rw [and_mask]; rfl⟩
     | 1, _, k1, k2 => exact ⟨v2, u2, (Option.some.inj k1).symm, (Option.some.inj k2).symm, by rw [and_mask]; rfl⟩
     | 2, _, k1, k2 => exact ⟨v3, u3, (Option.some.inj k1).symm, (Option.some.inj k2).symm, by rw [and_mask]; rfl⟩
     | 3, _, k1, k2 => exact ⟨v4, u4, (Option.some.inj k1).symm, (Option.some.inj k2).symm, by rw [and_mask]; rfl⟩
    subst ex; subst ey
    have sT : Same H2 (upd H2 Tt (.tup [nV xn, nV yn])) := up nT
    refine ⟨Tt, _, rfl, SqT.of upd_same, rfl, _, _, rfl, _, _, rfl, rfl, rfl, _, rfl, _, rfl, xn, yn, rfl, rfl, _, 4294967295, rfl, rfl, _, sT _ _ l3, ?_, ?_, ?_, ?_⟩
    ·rw [nb_length, List.length_take]
     exact small' (by show min i 4 ≤ 100000; omega)
    ·intro c o hc
     have hcD : c ≠ D := ne_of_none hc (s1.free hD)
     rw [upd_ne hcD]
     exact sT _ _ (s2 _ _ hc)
    ·have hpD : p1 ≠ D := ne_of_none (upd_same) hD
     unfold Ls
     rw [upd_ne hpD]
     exact sT _ _ l2
    ·unfold Ls
     rw [upd_same, List.take_add_one, ez, nb_append]
     rfl
   ·rintro H2 ⟨s2, l2, l3⟩
    rw [est] at q
    exact q D H2 (s1.free hD) s2 l3
end
end Dw
namespace Dw
open PySem L2 Sn37
theorem fitsL {z : Int} (h0 : 0 ≤ z) (h1 : z < 2 ^ 62) : Builtin.Range.rangeFitsLong z = true := by
 unfold Builtin.Range.rangeFitsLong
 rw [Bool.and_eq_true]
 exact ⟨decide_eq_true (by omega), decide_eq_true (by omega)⟩
theorem rg64 (k : Nat) (hk : k ≤ 1000000) : RgC 0 ((64 * k : Nat) : Int) 64 k := by
 have e : Builtin.Range.rangeSize 0 ((64 * k : Nat) : Int) 64 = k := by
  unfold Builtin.Range.rangeSize
  rw [if_pos (by decide)]
  split <;> omega
 refine ⟨by decide, by decide, ?_, e⟩
 unfold Builtin.Range.small
 rw [e]
 rw [fitsL (by omega) (by omega), fitsL (by omega) (by omega), fitsL (z := 64) (by decide) (by decide), fitsL (by omega) (by omega), if_pos (by decide), fitsL (by omega) (by omega)]
 simp
theorem rg16 (k : Nat) (hk : k ≤ 1000000) : RgC 0 ((16 * k : Nat) : Int) 16 k := by
 have e : Builtin.Range.rangeSize 0 ((16 * k : Nat) : Int) 16 = k := by
  unfold Builtin.Range.rangeSize
  rw [if_pos (by decide)]
  split <;> omega
 refine ⟨by decide, by decide, ?_, e⟩
 unfold Builtin.Range.small
 rw [e]
 rw [fitsL (by omega) (by omega), fitsL (by omega) (by omega), fitsL (z := 16) (by decide) (by decide), fitsL (by omega) (by omega), if_pos (by decide), fitsL (by omega) (by omega)]
 simp
section
variable {P : Program} {w : World} {K : PySem.W.Frag} {mg : Str → Option Value} {base : Heap} {t : Adr}
theorem flat4_length (l : List Nat) : (l.flatMap (leBytes 4)).length = 4 * l.length := by
 induction l with
 | nil => rfl
 | cons x l ih => rw [List.flatMap_cons, List.length_append, leBytes_length, ih, List.length_cons]; omega
def spMd5 : Sp := fun vs H Q _ => ∃ a, ∃ m : List Nat, vs = [.ref a] ∧ Ls H a m ∧ m.length ≤ 40000 ∧ By m ∧ NewL H (md5 m) Q
abbrev nMd5 : List Str := ["message", "filled", "state", "place", "result", "word"]
theorem sc_md5 : FnScope nMd5 ["message"] (defScope (top 9)) := ⟨rfl, rfl, rfl, by decide +kernel, rfl, by decide +kernel, by decide +kernel⟩
abbrev v0 : W4 := (0x67452301, 0xefcdab89, 0x98badcfe, 0x10325476)
theorem v0_in : InW v0 := ⟨by decide, by decide, by decide, by decide⟩
theorem ok_md5 (T : Txt K mg t) : FnOk P w K mg base CX0 3 t.md5.a t.md5.fd ["message"] spMd5 := by
 refine T.digest.md5.fn.ok sc_md5 (fun vs H Q E h => ?_) (fun cdv A outer s H vs Q E hr h => ?_)
 ·obtain ⟨a, m, rfl, _⟩ := h
  rfl
 ·obtain ⟨a, m, rfl, hm, hml, hmb, q⟩ := h
  refine ⟨_, (pss_cons (ps_set (i := 1) sc_md5.nd rfl (Or.inl rfl) (callN (ok_pad T) T.digest.padded hr (pa_cons (pv 0) pa_nil)))
   (pss_cons (ps_set (i := 2) sc_md5.nd rfl (Or.inl rfl) (pe_callTy call_list_of rfl (bl_in T "list") bt_list (pa_cons (gTp T.digest.START) pa_nil)))
   (pss_cons (ps_for PassesOwn.never rfl (pi_range3 rfl (bl_in T "range") (pa_cons pe_int (pa_cons (pLen T (pv 1)) (pa_cons pe_int pa_nil)))) (pg_name (i := 3) sc_md5.nd rfl (Or.inl rfl))
   (pss_one (ps_set (i := 2) sc_md5.nd rfl (Or.inl rfl) (callN (ok_stir T) T.digest.stirred hr (pa_cons (pv 2) (pa_cons (callN (ok_words T) T.digest.words_of hr (pa_cons (pe_slice (sl_n K) (pv 1) (po_some (pv 3)) (po_some (pe_op o_add (pv 3) pe_int))) pa_nil)) pa_nil))))))
   (pss_cons (ps_set (i := 4) sc_md5.nd rfl (Or.inl rfl) (pe_lst pa_nil))
   (pss_cons (ps_for PassesOwn.never rfl (pi_list (pv 2)) (pg_name (i := 5) sc_md5.nd rfl (Or.inl rfl))
   (pss_one (ps_expr (pe_bm PySem.F.plainAttrs_list PySem.F.slot_list_extend PySem.F.type_list_extend mt_extend (pv 4) (pa_cons (callN (ok_low T) T.digest.low_first hr (pa_cons (pv 5) (pa_cons pe_int pa_nil))) pa_nil)))))
   (pss_one (ps_ret (pv 4)))))))), ?_⟩
  refine ⟨_, rfl, a, m, rfl, hm, by omega, fun p1 H1 n1 s1 l1 => ?_⟩
  refine ⟨t.aSTART, nb (w4 v0), rfl, .inr (T.digest.tSTART H1), fun p2 n2 => ?_⟩
  have s2 : Same H1 (upd H1 p2 (.lst (nb (w4 v0)))) := up n2
  have hpl := padded_length m
  have hpb := padded_lt hmb
  refine ⟨_, rfl, p1, padded m, rfl, SqL.of (s2 _ _ l1), 0, 64 * nbk m, 64, nbk m, ?_, ?_, for_gen (n := nbk m) (fun i σ H2 => ∃ p o3, Same (upd H1 p2 (.lst (nb (w4 v0)))) H2 ∧ SqL K H2 p (nb (w4 (bst i (padded m) v0))) ∧ σ = [some (.ref a), some (.ref p1), some (.ref p), o3, none, none])
   ⟨p2, _, Same.refl _, SqL.of upd_same, rfl⟩ (fun i σ H2 hi _ => hi) (fun σ H2 _ => Nat.le_refl _) ?_ ?_⟩
  ·rw [hpl]
   rfl
  ·have hk : nbk m ≤ 1000000 := by unfold nbk; omega
   exact rg64 (nbk m) hk
  ·rintro i σ H2 x H3 hi ⟨p, o3, s3, hp, rfl⟩ ⟨rfl, e⟩
   have e' : x = nV (64 * i) := by rw [e]; show V.int _ = V.int _; congr 1; omega
   subst e'
   have l2 := s3 _ _ (s2 _ _ l1)
   refine ⟨_, rfl, _, rfl, _, rfl, _, rfl, _, rfl, 64 * i, 64, rfl, rfl, _, rfl, p1, padded m, rfl, SqL.of l2, fun p3 H4 n4 s4 l4 => ?_⟩
   have ec : cutN (padded m) (some ((64 * i : Nat) : Int)) (some ((64 * i + 64 : Nat) : Int)) = ((padded m).drop (64 * i)).take 64 := by
    rw [cutN_mid, show 64 * i + 64 - 64 * i = 64 by omega]
   have hl64 : (((padded m).drop (64 * i)).take 64).length = 64 := by
    rw [List.length_take, List.length_drop, hpl]
    omega
   have hb64 : By (((padded m).drop (64 * i)).take 64) := fun c hc => hpb c (List.mem_of_mem_drop (List.mem_of_mem_take hc))
   have l4' : Ls H4 p3 (((padded m).drop (64 * i)).take 64) := ec ▸ l4
   refine ⟨p3, _, rfl, SqL.of l4', hl64, hb64, fun p4 H5 n5 s5 l5 => ?_⟩
   have s45 := s4.trans s5
   refine ⟨p, p4, bst i (padded m) v0, _, rfl, s45.seq hp, SqL.of l5, bst_in v0_in i (padded m), wordsOf_length _, wordsOf_lt hb64, fun p5 H6 n6 s6 l6 => ?_⟩
   exact ⟨p5, _, (s3.trans s45).trans s6, by rw [bst_succ]; exact SqL.of l6, rfl⟩
  ·rintro σ H2 ⟨p, o3, s3, hp, rfl⟩
   have em := md5_bst m
   generalize bst (nbk m) (padded m) v0 = u at hp em
   refine ⟨(by show 0 ≤ sizeLine; decide), fun p4 n4 => ?_⟩
   have s4 : Same H2 (upd H2 p4 (.lst (nb []))) := up n4
   refine ⟨_, rfl, p, rfl, ⟨_, s4.seq hp⟩, for_list (K := K) (a := p) (xs := nb (w4 u)) (fun i σ H5 => ∃ o5, Same H2 H5 ∧ Ls H5 p4 (((w4 u).take i).flatMap (leBytes 4)) ∧ σ = [some (.ref a), some (.ref p1), some (.ref p), o3, some (.ref p4), o5])
    ⟨none, s4, upd_same, rfl⟩ (fun i σ H5 _ ⟨_, s5, _⟩ => s5.seq hp) ?_ ?_⟩
   ·rintro i x σ H5 hi ⟨o5, s5, l5, rfl⟩
    obtain ⟨n, hn, rfl⟩ : ∃ n, (w4 u)[i]? = some n ∧ x = nV n := by
     rw [List.getElem?_map] at hi
     cases e : (w4 u)[i]? with
     | none => rw [e] at hi; cases hi
     | some n => rw [e] at hi; exact ⟨n, rfl, (Option.some.inj hi).symm⟩
    have hi4 : i < 4 := (List.getElem?_eq_some_iff.mp hn).1
    refine ⟨_, rfl, .inl ⟨rfl, _, SqL.of l5⟩, _, rfl, n, 4, rfl, by decide, fun p6 H6 n6 s6 l6 => ?_⟩
    refine ⟨p4, p6, _, _, rfl, rfl, s6 _ _ l5, l6, ?_, _, fun c o hc => ?_, ?_, rfl⟩
    ·rw [nb_length, nb_length, leBytes_length, flat4_length]
     exact small (by rw [List.length_take]; omega)
    ·rw [upd_ne (ne_of_none hc n4)]
     exact s6 _ _ (s5 _ _ hc)
    ·unfold Ls
     rw [upd_same, List.take_add_one, hn, List.flatMap_append, nb_append]
     simp [List.flatMap_cons]
   ·rintro σ H5 ⟨o5, s5, l5, rfl⟩
    have sall : Same H H5 := ((s1.trans s2).trans s3).trans s5
    refine ⟨_, rfl, q p4 H5 (((s1.trans s2).trans s3).free n4) sall ?_⟩
    rw [em]
    have e4 : ((w4 u).take (nb (w4 u)).length).flatMap (leBytes 4) = leBytes 4 u.1 ++ (leBytes 4 u.2.1 ++ (leBytes 4 u.2.2.1 ++ leBytes 4 u.2.2.2)) := by
     show [u.1, u.2.1, u.2.2.1, u.2.2.2].flatMap (leBytes 4) = _
     simp [List.flatMap_cons]
    rw [← e4]
    exact l5
def spHmac : Sp := fun vs H Q _ => ∃ a b, ∃ k m : List Nat, vs = [.ref a, .ref b] ∧ Ls H a k ∧ Ls H b m ∧ k.length ≤ 64 ∧ m.length ≤ 30000 ∧ By k ∧ By m ∧ NewL H (hmac k m) Q
abbrev nHmac : List Str := ["key", "message", "filled", "inner", "byte"]
theorem sc_hmac : FnScope nHmac ["key", "message"] (defScope (top 10)) := ⟨rfl, rfl, rfl, by decide +kernel, rfl, by decide +kernel, by decide +kernel⟩
theorem ok_hmac (T : Txt K mg t) : FnOk P w K mg base CX0 4 t.keyed_md5.a t.keyed_md5.fd ["key", "message"] spHmac := by
 refine T.digest.keyed_md5.fn.ok sc_hmac (fun vs H Q E h => ?_) (fun cdv A outer s H vs Q E hr h => ?_)
 ·obtain ⟨a, b, k, m, rfl, _⟩ := h
  rfl
 ·obtain ⟨a, b, k, m, rfl, hk, hm, hkl, hml, hkb, hmb, q⟩ := h
  refine ⟨_, (pss_cons (ps_set (i := 2) sc_hmac.nd rfl (Or.inl rfl) (pe_op o_cat (pv 0) (pe_op o_rep (pe_lst (pa_cons pe_int pa_nil)) (pe_op op_sub pe_int (pLen T (pv 0))))))
   (pss_cons (ps_set (i := 3) sc_hmac.nd rfl (Or.inl rfl) (callN (ok_md5 T) T.digest.md5 hr (pa_cons (pe_op o_cat (pe_lc (own := [("byte", 4)]) rfl sc_hmac.nd (pi_list (pv 2)) (blkOk_by (by kernel_rfl)) (fun _ _ _ _ _ => (pg_name (i := 4) sc_hmac.nd rfl (Or.inl rfl))) (fun _ _ _ _ _ => pts_nil) (fun _ _ _ _ _ => (pe_op o_xor (pv 4) pe_int))) (pv 1)) pa_nil)))
   (pss_one (ps_ret (callN (ok_md5 T) T.digest.md5 hr (pa_cons (pe_op o_cat (pe_lc (own := [("byte", 4)]) rfl sc_hmac.nd (pi_list (pv 2)) (blkOk_by (by kernel_rfl)) (fun _ _ _ _ _ => (pg_name (i := 4) sc_hmac.nd rfl (Or.inl rfl))) (fun _ _ _ _ _ => pts_nil) (fun _ _ _ _ _ => (pe_op o_xor (pv 4) pe_int))) (pv 3)) pa_nil)))))), ?_⟩
  refine ⟨_, rfl, (by show 1 ≤ sizeLine; decide), fun p1 n1 => ?_⟩
  have s1 : Same H (upd H p1 (.lst (nb [0]))) := up n1
  refine ⟨_, rfl, a, k, rfl, SqL.of (s1 _ _ hk), 64, k.length, rfl, rfl, p1, 0, 64 - k.length, _, rfl, rfl, by omega, by omega, by omega, upd_same, fun p2 H2 n2 s2 l2 => ?_⟩
  refine ⟨a, p2, k, _, rfl, rfl, s2 _ _ (s1 _ _ hk), l2, by rw [List.length_replicate]; omega, fun p3 H3 n3 s3 l3 => ?_⟩
  have hf : (k ++ List.replicate (64 - k.length) 0).length = 64 := by rw [List.length_append, List.length_replicate]; omega
  have hfb : By (k ++ List.replicate (64 - k.length) 0) := fun c hc => by
   rcases List.mem_append.mp hc with h | h
   ·exact hkb c h
   ·rw [(List.mem_replicate.mp h).2]; decide
  have s03 : Same H H3 := (s1.trans s2).trans s3
  have eh : hmac k m = md5 ((k ++ List.replicate (64 - k.length) 0).map (fun c => c ^^^ 92) ++ md5 ((k ++ List.replicate (64 - k.length) 0).map (fun c => c ^^^ 54) ++ m)) := rfl
  rw [eh] at q
  generalize k ++ List.replicate (64 - k.length) 0 = fl at hf hfb l3 q
  have hxb : ∀ z, z < 256 → By (fl.map fun c => c ^^^ z) := fun z hz c hc => by
   obtain ⟨d, hd, rfl⟩ := List.mem_map.mp hc
   exact Nat.xor_lt_two_pow (n := 8) (hfb d hd) hz
  refine ⟨_, rfl, p3, rfl, ⟨_, SqL.of l3⟩, fun D hD => lc_mapN (K := K) (l := fl) (fun c => c ^^^ 54) (SqL.of l3) hD (by omega) (fun n H4 Ry hn hq => ⟨rfl, _, rfl, n, 54, rfl, rfl, hq⟩) fun H4 s4 l4 => ?_⟩
  have hm4 := s4 _ _ (s03 _ _ hm)
  refine ⟨_, rfl, D, b, _, m, rfl, rfl, l4, hm4, (by rw [List.length_map]; omega), fun p5 H5 n5 s5 l5 => ?_⟩
  refine ⟨p5, _, rfl, l5, (by rw [List.length_append, List.length_map]; omega), ?_, fun p6 H6 n6 s6 l6 => ?_⟩
  ·intro c hc
   rcases List.mem_append.mp hc with h | h
   ·exact hxb 54 (by decide) c h
   ·exact hmb c h
  have s36 : Same H3 H6 := (s4.trans s5).trans s6
  have l36 := s36 _ _ l3
  refine ⟨_, rfl, p3, rfl, ⟨_, SqL.of l36⟩, fun D2 hD2 => lc_mapN (K := K) (l := fl) (fun c => c ^^^ 92) (SqL.of l36) hD2 (by omega) (fun n H4 Ry hn hq => ⟨rfl, _, rfl, n, 92, rfl, rfl, hq⟩) fun H7 s7 l7 => ?_⟩
  refine ⟨_, rfl, D2, p6, _, _, rfl, rfl, l7, s7 _ _ l6, (by rw [List.length_map, md5_length]; omega), fun p8 H8 n8 s8 l8 => ?_⟩
  refine ⟨p8, _, rfl, l8, (by rw [List.length_append, List.length_map, md5_length]; omega), ?_, fun p9 H9 n9 s9 l9 => ?_⟩
  ·intro c hc
   rcases List.mem_append.mp hc with h | h
   ·exact hxb 92 (by decide) c h
   ·exact md5_lt _ c h
  have sall : Same H H8 := (s03.trans s36).trans (s7.trans s8)
  exact q p9 H9 (sall.free n9) (sall.trans s9) l9
end
end Dw
namespace Dw
open PySem L2 Sn37
def AtAt (t : Adr) (H : Hp) (x : Addr) (m : At3) : Prop := ∃ dx lv, H x = some (.ins t.cAttribute dx (fsAttribute (nV m.1) (nV m.2.1) (.ref lv))) ∧ Ls H lv m.2.2
theorem AtAt.same {t : Adr} {H H' : Hp} {x : Addr} {m : At3} (h : AtAt t H x m) (s : Same H H') : AtAt t H' x m := let ⟨dx, lv, h1, h2⟩ := h; ⟨dx, lv, s _ _ h1, s _ _ h2⟩
abbrev Z3 := List (Addr × At3)
structure PkAt (t : Adr) (H : Hp) (x : Addr) (p : Packet) (z : Z3) : Prop where
 ok : PkOk p (z.map (·.2))
 ex : ∃ dx ld la lm, H x = some (.ins t.cPacket dx (fsPacket (.ref ld) (nV p.code) (nV p.id) (.ref la) (.ref lm))) ∧ Ls H ld p.whole ∧ Ls H la p.auth ∧ H lm = some (.lst (z.map fun q => V.ref q.1))
 at_ : ∀ q ∈ z, AtAt t H q.1 q.2
 by1 : p.code < 256 ∧ p.id < 256
theorem PkAt.same {t : Adr} {H H' : Hp} {x : Addr} {p : Packet} {z : Z3} (h : PkAt t H x p z) (s : Same H H') : PkAt t H' x p z :=
 let ⟨dx, ld, la, lm, h1, h2, h3, h4⟩ := h.ex
 ⟨h.ok, ⟨dx, ld, la, lm, s _ _ h1, s _ _ h2, s _ _ h3, s _ _ h4⟩, fun q hq => (h.at_ q hq).same s, h.by1⟩
theorem ite_b {b : Bool} {A B A' B' : Prop} (h : if b = true then A else B) (ha : A → A') (hb : B → B') : if b = true then A' else B' := by
 cases b with
 | true => exact ha h
 | false => exact hb h
def NoA (t : Adr) (H : Hp) (E : XK) : Prop := ∀ H', Same H H' → E (.ref t.cNoAnswer) none H'
abbrev Stored (H H' : Hp) (x : Addr) (o : HO) : Prop := H' x = some o ∧ ∀ b u, H b = some u → b ≠ x → H' b = some u
theorem na {K : PySem.W.Frag} {mg : Str → Option Value} {x : Str} {C : Addr} {i : Fn} {at_ : List Str} (k : Kl K mg x C i at_) (f : Str) (h : f ∈ at_ := by decide +kernel) : NoAttr K C f := k.no f h
section
variable {P : Program} {w : World} {K : PySem.W.Frag} {mg : Str → Option Value} {base : Heap} {t : Adr}
def spIAttribute (t : Adr) : Sp := fun vs H Q _ => ∃ x dx a b c, vs = [.ref x, a, b, c] ∧ H x = some (.ins t.cAttribute dx []) ∧ ∀ H', Stored H H' x (.ins t.cAttribute dx (fsAttribute a b c)) → Q .non H'
theorem sc_iAttribute : FnScope ["self", "kind", "place", "value"] ["self", "kind", "place", "value"] (defScope (inClass (top 21) 0)) := ⟨rfl, rfl, rfl, by decide +kernel, rfl, by decide +kernel, by decide +kernel⟩
theorem ok_iAttribute (T : Txt K mg t) : FnOk P w K mg base CX0 1 t.iAttribute.a t.iAttribute.fd ["self", "kind", "place", "value"] (spIAttribute t) := by
 refine T.packets.iAttribute.fn.ok sc_iAttribute (fun vs H Q E h => ?_) (fun cdv A outer s H vs Q E hr h => ?_)
 ·obtain ⟨x, dx, a, b, c, rfl, _⟩ := h
  rfl
 ·obtain ⟨x, dx, a, b, c, rfl, hx, q⟩ := h
  have kl := T.packets.cAttribute
  refine ⟨_, (pss_cons (ps_fld (pv 0) (pv 1) rfl)
   (pss_cons (ps_fld (pv 0) (pv 2) rfl)
   (pss_one (ps_fld (pv 0) (pv 3) rfl)))), ?_⟩
  refine ⟨_, rfl, _, rfl, x, _, dx, [], rfl, hx, kl.cl, na kl _, by show 0 < 1000; decide, _, rfl, _, rfl, x, _, dx, _, rfl, upd_same, kl.cl, na kl _, by show 1 < 1000; decide, _, rfl, _, rfl, x, _, dx, _, rfl, upd_same, kl.cl, na kl _, ?_, ?_⟩
  ·exact Nat.lt_of_le_of_lt (length_putF _ _ _) (by show 1 + 1 < 1000; decide)
  ·refine q _ ⟨upd_same, fun b u e hb => ?_⟩
   rw [upd_ne hb, upd_ne hb, upd_ne hb]
   exact e
theorem ls_upd {H : Hp} {a x C dx : Addr} {l : List Nat} {fs : List (Str × V)} {o : HO} (h : Ls H a l) (hx : H x = some (.ins C dx fs)) : Ls (upd H x o) a l := by
 unfold Ls
 rw [upd_ne (ne_of h hx (by intro z; cases z))]
 exact h
def spIPacket (t : Adr) : Sp := fun vs H Q _ => ∃ x dx ld lm, ∃ d : List Nat, vs = [.ref x, .ref ld, .ref lm] ∧ H x = some (.ins t.cPacket dx []) ∧ Ls H ld d ∧ 20 ≤ d.length ∧
 ∀ la H', H la = none → Ls H' la ((d.drop 4).take 16) → Stored H H' x (.ins t.cPacket dx (fsPacket (.ref ld) (nV (d.getD 0 0)) (nV (d.getD 1 0)) (.ref la) (.ref lm))) → Q .non H'
theorem sc_iPacket : FnScope ["self", "data", "attributes"] ["self", "data", "attributes"] (defScope (inClass (top 22) 0)) := ⟨rfl, rfl, rfl, by decide +kernel, rfl, by decide +kernel, by decide +kernel⟩
theorem ok_iPacket (T : Txt K mg t) : FnOk P w K mg base CX0 1 t.iPacket.a t.iPacket.fd ["self", "data", "attributes"] (spIPacket t) := by
 refine T.packets.iPacket.fn.ok sc_iPacket (fun vs H Q E h => ?_) (fun cdv A outer s H vs Q E hr h => ?_)
 ·obtain ⟨x, dx, ld, lm, d, rfl, _⟩ := h
  rfl
 ·obtain ⟨x, dx, ld, lm, d, rfl, hx, hd, hl, q⟩ := h
  have kl := T.packets.cPacket
  refine ⟨_, (pss_cons (ps_fld (pv 0) (pv 1) rfl)
   (pss_cons (ps_fld (pv 0) (pe_ix (ix_nk K) (pv 1) pe_int (fun _ _ => rfl)) rfl)
   (pss_cons (ps_fld (pv 0) (pe_ix (ix_nk K) (pv 1) pe_int (fun _ _ => rfl)) rfl)
   (pss_cons (ps_fld (pv 0) (pe_slice (sl_n K) (pv 1) (po_some (gN T "AUTHENTICATOR_PLACE" 4)) (po_some (gN T "HEAD_SIZE" 20))) rfl)
   (pss_one (ps_fld (pv 0) (pv 2) rfl)))))), ?_⟩
  have g0 : d[0]? = some (d.getD 0 0) := get_of (by omega)
  have g1 : d[1]? = some (d.getD 1 0) := get_of (by omega)
  refine ⟨_, rfl, _, rfl, x, _, dx, [], rfl, hx, kl.cl, na kl _, by show 0 < 1000; decide, ?_⟩
  have h1 : Ls (upd H x (.ins t.cPacket dx (putF "data" (.ref ld) []))) ld d := ls_upd hd hx
  refine ⟨_, rfl, ld, d, 0, _, rfl, rfl, SqL.of h1, g0, _, rfl, x, _, dx, _, rfl, upd_same, kl.cl, na kl _, by show 1 < 1000; decide, ?_⟩
  rw [upd_upd]
  have h2 : Ls (upd H x (.ins t.cPacket dx (putF "code" (nV (d.getD 0 0)) (putF "data" (.ref ld) [])))) ld d := ls_upd hd hx
  refine ⟨_, rfl, ld, d, 1, _, rfl, rfl, SqL.of h2, g1, _, rfl, x, _, dx, _, rfl, upd_same, kl.cl, na kl _, ?_, ?_⟩
  ·exact Nat.lt_of_le_of_lt (length_putF _ _ _) (by show 1 + 1 < 1000; decide)
  rw [upd_upd]
  have h3 : Ls (upd H x (.ins t.cPacket dx (putF "number" (nV (d.getD 1 0)) (putF "code" (nV (d.getD 0 0)) (putF "data" (.ref ld) []))))) ld d := ls_upd hd hx
  refine ⟨_, rfl, 4, rfl, 20, rfl, ld, d, rfl, SqL.of h3, fun la H4 n4 s4 l4 => ?_⟩
  have ec : cutN d (some 4) (some 20) = (d.drop 4).take 16 := cutN_mid d 4 20
  rw [ec] at l4
  have hx4 := s4 _ _ (upd_same (H := H) (a := x) (o := .ins t.cPacket dx (putF "number" (nV (d.getD 1 0)) (putF "code" (nV (d.getD 0 0)) (putF "data" (.ref ld) [])))))
  refine ⟨_, rfl, x, _, dx, _, rfl, hx4, kl.cl, na kl _, ?_, ?_⟩
  ·exact Nat.lt_of_le_of_lt (length_putF _ _ _) (Nat.lt_of_le_of_lt (Nat.add_le_add_right (length_putF _ _ _) 1) (by show 1 + 1 + 1 < 1000; decide))
  refine ⟨_, rfl, _, rfl, x, _, dx, _, rfl, upd_same, kl.cl, na kl _, ?_, ?_⟩
  ·exact Nat.lt_of_le_of_lt (length_putF _ _ _) (Nat.lt_of_le_of_lt (Nat.add_le_add_right (length_putF _ _ _) 1) (Nat.lt_of_le_of_lt (Nat.add_le_add_right (Nat.add_le_add_right (length_putF _ _ _) 1) 1) (by show 1 + 1 + 1 + 1 < 1000; decide)))
  rw [upd_upd]
  have nla : H la = none := by
   cases e : H la with
   | none => rfl
   | some u =>
    by_cases hb : la = x
    ·rw [hb, upd_same] at n4; cases n4
    ·rw [upd_ne hb, e] at n4; cases n4
  refine q la _ nla (ls_upd l4 hx4) ⟨upd_same, fun b u e hb => ?_⟩
  rw [upd_ne hb]
  exact s4 _ _ (by rw [upd_ne hb]; exact e)
abbrev ofK (z : Z3) (k : Nat) : Z3 := z.filter fun q => q.2.1 == k
abbrev rfs (z : Z3) : List V := z.map fun q => V.ref q.1
def spAllOf (t : Adr) : Sp := fun vs H Q _ => ∃ x p z, ∃ k : Nat, vs = [.ref x, nV k] ∧ PkAt t H x p z ∧ ∀ a H', H a = none → Same H H' → H' a = some (.lst (rfs (ofK z k))) → Q (.ref a) H'
theorem sc_allOf : FnScope ["self", "kind", "attribute"] ["self", "kind"] (defScope (inClass (top 22) 1)) := ⟨rfl, rfl, rfl, by decide +kernel, rfl, by decide +kernel, by decide +kernel⟩
theorem placed_len {st : Nat} {m : List At3} (h : Placed st m) : 3 * m.length ≤ (attrBytes (m.map two)).length := by
 induction h with
 | nil => exact Nat.le_refl _
 | cons h1 h2 ih =>
  rename_i st k v m
  show _ ≤ (attrBytes ((k, v) :: m.map two)).length
  rw [attrBytes_length_cons, List.length_cons]
  omega
theorem PkAt.zlen {t : Adr} {H : Hp} {x : Addr} {p : Packet} {z : Z3} (h : PkAt t H x p z) : z.length ≤ 1400 := by
 have h1 := placed_len h.ok.pl
 have h2 := h.ok.most
 rw [← h.ok.rest, List.length_drop, List.length_map] at h1
 omega
theorem ok_packet_all_of (T : Txt K mg t) : FnOk P w K mg base CX0 1 t.packet_all_of.a t.packet_all_of.fd ["self", "kind"] (spAllOf t) := by
 refine T.packets.packet_all_of.fn.ok sc_allOf (fun vs H Q E h => ?_) (fun cdv A outer s H vs Q E hr h => ?_)
 ·obtain ⟨x, p, z, k, rfl, _⟩ := h
  rfl
 ·obtain ⟨x, p, z, k, rfl, pk, q⟩ := h
  obtain ⟨dx, ld, la, lm, h1, h2, h3, h4⟩ := pk.ex
  have kl := T.packets.cPacket
  have ka := T.packets.cAttribute
  refine ⟨_, (pss_one (ps_ret (pe_lc (own := [("attribute", 2)]) rfl sc_allOf.nd (pi_list (fldK K (pv 0) rfl)) (blkOk_by (by kernel_rfl)) (fun _ _ _ _ _ => (pg_name (i := 2) sc_allOf.nd rfl (Or.inl rfl))) (fun _ _ _ _ _ => (pts_one (pt_cmpR o_eq (fldK K (pv 2) rfl) (pv 1) (nomark _)))) (fun _ _ _ _ _ => (pv 2))))), ?_⟩
  refine ⟨_, rfl, x, _, dx, _, _, rfl, h1, kl.cl, na kl _, fsPacket_attributes, lm, rfl, ⟨_, SqL.of h4⟩, fun D hD => ?_⟩
  refine lc_fmz (K := K) (z := z) (r := fun q => V.ref q.1) (fun q => q.2.1 == k) (fun q => V.ref q.1) (SqL.of h4) hD (Nat.le_trans pk.zlen (by decide)) (fun y H' Rn Ry hy sH hq => ?_) fun H' s' l' => q D H' hD s' l'
  obtain ⟨dy, lv, a1, a2⟩ := (pk.at_ y hy).same sH
  refine ⟨rfl, _, rfl, y.1, _, dy, _, _, rfl, a1, ka.cl, na ka _, fsAttribute_kind, _, rfl, y.2.1, k, rfl, rfl, _, rfl, ?_⟩
  have e : (y.2.1 == k) = decide (y.2.1 = k) := rfl
  rw [e] at hq
  exact ite_b hq (fun h => ⟨_, rfl, h⟩) (fun h => h)
def spOnly (t : Adr) : Sp := fun vs H Q E => ∃ x p z, ∃ k : Nat, vs = [.ref x, nV k] ∧ PkAt t H x p z ∧ (∀ q, ofK z k = [q] → ∀ H', Same H H' → Q (.ref q.1) H') ∧ ((ofK z k).length ≠ 1 → NoA t H E)
theorem sc_only : FnScope ["self", "kind", "found"] ["self", "kind"] (defScope (inClass (top 22) 2)) := ⟨rfl, rfl, rfl, by decide +kernel, rfl, by decide +kernel, by decide +kernel⟩
theorem ok_packet_only (T : Txt K mg t) : FnOk P w K mg base (CXF P w) 2 t.packet_only.a t.packet_only.fd ["self", "kind"] (spOnly t) := by
 refine T.packets.packet_only.fn.okX sc_only (fun vs H Q E h => ?_) (fun cdv A outer s H vs Q E hr h => ?_)
 ·obtain ⟨x, p, z, k, rfl, _⟩ := h
  rfl
 ·obtain ⟨x, p, z, k, rfl, pk, q1, q2⟩ := h
  obtain ⟨dx, ld, la, lm, h1, h2, h3, h4⟩ := pk.ex
  refine ⟨_, (pss_cons (ps_set (i := 2) sc_only.nd rfl (Or.inl rfl) (methN (pv 0) T.packets.cPacket.cl T.packets.packet_all_of (ok_packet_all_of T) hr (pa_cons (pv 1) pa_nil)))
   (pss_cons (ps_if (pt_cmpR o_ne (pLenV T (pv 2)) pe_int (nomark _))
   (pss_one (ps_raise T.packets.cNoAnswer hr rfl))
   pss_nil)
   (pss_one (ps_ret (pe_ix (ix_vk K) (pv 2) pe_int (fun _ _ => rfl)))))), ?_⟩
  refine ⟨_, rfl, x, dx, _, rfl, h1, fsPacket_no "all_of", _, rfl, x, p, z, k, rfl, pk, fun a H1 n1 s1 l1 => ?_⟩
  refine ⟨_, rfl, a, _, rfl, .inl (SqL.of l1), _, 1, rfl, rfl, _, rfl, ite2 (fun h => ?_) (fun h => ?_)⟩
  ·have h : ¬ (rfs (ofK z k)).length = 1 := by simpa using h
   rw [List.length_map] at h
   exact q2 h H1 s1
  ·have h : (rfs (ofK z k)).length = 1 := by simpa using h
   rw [List.length_map] at h
   obtain ⟨y, hy⟩ := List.length_eq_one_iff.mp h
   refine ⟨_, rfl, a, _, 0, _, rfl, rfl, SqL.of l1, ?_, q1 y hy H1 s1⟩
   show (List.map (fun q => V.ref q.1) (ofK z k))[0]? = _
   rw [hy]
   rfl
end
end Dw
namespace Dw
open PySem L2 Sn37
section
variable {P : Program} {w : World} {K : PySem.W.Frag} {mg : Str → Option Value} {base : Heap} {t : Adr}
def spABytes : Sp := fun vs H Q _ => ∃ a, ∃ (k : Nat) (v : List Nat), vs = [nV k, .ref a] ∧ Ls H a v ∧ v.length ≤ 100000 ∧ NewL H (k :: (v.length + 2) :: v) Q
theorem sc_abytes : FnScope ["kind", "value"] ["kind", "value"] (defScope (top 25)) := ⟨rfl, rfl, rfl, by decide +kernel, rfl, by decide +kernel, by decide +kernel⟩
theorem ok_attribute_bytes (T : Txt K mg t) : FnOk P w K mg base CX0 1 t.attribute_bytes.a t.attribute_bytes.fd ["kind", "value"] spABytes := by
 refine T.packets.attribute_bytes.fn.ok sc_abytes (fun vs H Q E h => ?_) (fun cdv A outer s H vs Q E hr h => ?_)
 ·obtain ⟨a, k, v, rfl, _⟩ := h
  rfl
 ·obtain ⟨a, k, v, rfl, hv, hl, q⟩ := h
  refine ⟨_, (pss_one (ps_ret (pe_op o_cat (pe_lst (pa_cons (pv 0) (pa_cons (pe_op o_add (pLen T (pv 1)) pe_int) pa_nil))) (pv 1)))), ?_⟩
  refine ⟨_, rfl, _, rfl, a, v, rfl, SqL.of hv, v.length, 2, rfl, rfl, (by show 2 ≤ sizeLine; decide), fun p1 n1 => ?_⟩
  have s1 : Same H (upd H p1 (.lst (nb [k, v.length + 2]))) := up n1
  refine ⟨_, rfl, p1, a, [k, v.length + 2], v, rfl, rfl, upd_same, s1 _ _ hv, (by show 2 + v.length ≤ 200000; omega), fun p2 H2 n2 s2 l2 => ?_⟩
  exact q p2 H2 (s1.free n2) (s1.trans s2) l2
def spZeros : Sp := fun vs H Q _ => ∃ a, ∃ (d : List Nat) (pl : Nat), vs = [.ref a, nV pl] ∧ Ls H a d ∧ d.length ≤ 5000 ∧ NewL H (zeroed d pl) Q
theorem sc_zeros : FnScope ["data", "place"] ["data", "place"] (defScope (top 26)) := ⟨rfl, rfl, rfl, by decide +kernel, rfl, by decide +kernel, by decide +kernel⟩
theorem ok_with_zeros (T : Txt K mg t) : FnOk P w K mg base CX0 1 t.with_zeros.a t.with_zeros.fd ["data", "place"] spZeros := by
 refine T.packets.with_zeros.fn.ok sc_zeros (fun vs H Q E h => ?_) (fun cdv A outer s H vs Q E hr h => ?_)
 ·obtain ⟨a, d, pl, rfl, _⟩ := h
  rfl
 ·obtain ⟨a, d, pl, rfl, hd, hl, q⟩ := h
  refine ⟨_, (pss_one (ps_ret (pe_op o_cat (pe_op o_cat (pe_slice (sl_n K) (pv 0) po_none (po_some (pv 1))) (pe_op o_rep (pe_lst (pa_cons pe_int pa_nil)) (gN T "SUM_SIZE" 16))) (pe_slice (sl_n K) (pv 0) (po_some (pe_op o_add (pv 1) (gN T "SUM_SIZE" 16))) po_none)))), ?_⟩
  refine ⟨_, rfl, _, rfl, _, rfl, a, d, rfl, SqL.of hd, fun p1 H1 n1 s1 l1 => ?_⟩
  rw [cutN_to] at l1
  refine ⟨(by show 1 ≤ sizeLine; decide), fun p2 n2 => ?_⟩
  have s2 : Same H1 (upd H1 p2 (.lst (nb [0]))) := up n2
  refine ⟨p2, 0, 16, _, rfl, rfl, rfl, by decide, by decide, upd_same, fun p3 H3 n3 s3 l3 => ?_⟩
  refine ⟨p1, p3, _, _, rfl, rfl, s3 _ _ (s2 _ _ l1), l3, ?_, fun p4 H4 n4 s4 l4 => ?_⟩
  ·rw [List.length_replicate, List.length_take]
   omega
  have s14 : Same H H4 := ((s1.trans s2).trans s3).trans s4
  refine ⟨_, rfl, _, rfl, pl, 16, rfl, rfl, _, rfl, a, d, rfl, SqL.of (s14 _ _ hd), fun p5 H5 n5 s5 l5 => ?_⟩
  rw [cutN_from] at l5
  refine ⟨p4, p5, _, _, rfl, rfl, s5 _ _ l4, l5, ?_, fun p6 H6 n6 s6 l6 => ?_⟩
  ·rw [List.length_append, List.length_replicate, List.length_take, List.length_drop]
   omega
  exact q p6 H6 ((s14.trans s5).free n6) ((s14.trans s5).trans s6) l6
theorem made_same {H H3 : Hp} {x dx : Addr} {o o' : HO} (nx : H x = none) (nd : H dx = none) (h : Stored (upd (upd H dx (.own x)) x o') H3 x o) : Same H H3 := by
 intro b u e
 have h1 : b ≠ x := fun z => by rw [z, nx] at e; cases e
 have h2 : b ≠ dx := fun z => by rw [z, nd] at e; cases e
 refine h.2 b u ?_ h1
 rw [upd_ne h1, upd_ne h2]
 exact e
def Off (a : Addr) (H H' : Hp) : Prop := ∀ b u, b ≠ a → H b = some u → H' b = some u
theorem Off.refl (a : Addr) (H : Hp) : Off a H H := fun _ _ _ e => e
theorem Off.of {a : Addr} {H H1 H' : Hp} (s : Same H H1) (o : Off a H1 H') : Off a H H' := fun b u hb e => o b u hb (s b u e)
theorem Off.upd {a : Addr} {H H' : Hp} {o : HO} (h : Off a (upd H a o) H') : Off a H H' := fun b u hb e => h b u hb (by rw [upd_ne hb]; exact e)
theorem put_new {H H1 : Hp} {a : Addr} {o : HO} (s : Same H H1) (n : H a = none) : Same H (upd H1 a o) := fun b u e => by
 rw [upd_ne (fun z => by rw [z, n] at e; cases e)]
 exact s b u e
theorem ne_new {H H1 : Hp} {a b : Addr} {u : HO} (s : Same H H1) (h : H a = some u) (n : H1 b = none) : b ≠ a := fun z => by
 rw [z, s _ _ h] at n
 cases n
def spRAttrs (t : Adr) : Sp := fun vs H Q E => ∃ a, ∃ d : List Nat, vs = [.ref a] ∧ Ls H a d ∧ 20 ≤ d.length ∧ d.length ≤ 4096 ∧
 (∀ m, attrsP (d.length + 1) 20 (d.drop 20) = some m → ∀ lm z H', H lm = none → Same H H' → H' lm = some (.lst (rfs z)) → (∀ q ∈ z, AtAt t H' q.1 q.2) → z.map (·.2) = m → Q (.ref lm) H') ∧ (attrsP (d.length + 1) 20 (d.drop 20) = none → NoA t H E)
theorem sc_rattrs : FnScope ["data", "attributes", "start", "end"] ["data"] (defScope (top 24)) := ⟨rfl, rfl, rfl, by decide +kernel, rfl, by decide +kernel, by decide +kernel⟩
theorem attrsP_end (f st : Nat) : attrsP (f + 1) st [] = some [] := rfl
theorem attrsP_one (f st k : Nat) : attrsP (f + 1) st [k] = none := rfl
theorem attrsP_two' (f st k l : Nat) (r : Bytes) : attrsP (f + 1) st (k :: l :: r) = if l < 3 ∨ r.length < l - 2 then none else (attrsP f (st + l) (r.drop (l - 2))).map fun m => (k, st + 2, r.take (l - 2)) :: m := rfl
theorem attrs_turn {d : Bytes} {st k l : Nat} (h1 : d[st]? = some k) (h2 : d[st + 1]? = some l) :
  attrsP (d.length + 1) st (d.drop st) = if st + l < st + 3 ∨ st + l > d.length then none else (attrsP (d.length + 1) (st + l) (d.drop (st + l))).map fun m => (k, st + 2, (d.drop (st + 2)).take (st + l - (st + 2))) :: m := by
 have hl1 : st + 1 < d.length := (List.getElem?_eq_some_iff.mp h2).1
 have e : d.drop st = k :: l :: d.drop (st + 2) := by
  rw [List.drop_eq_getElem_cons (by omega), List.drop_eq_getElem_cons (by omega)]
  have a1 := (List.getElem?_eq_some_iff.mp h1).2
  have a2 := (List.getElem?_eq_some_iff.mp h2).2
  rw [a1, a2]
 rw [e, attrsP_two', List.length_drop]
 by_cases hc : l < 3 ∨ d.length - (st + 2) < l - 2
 ·rw [if_pos hc, if_pos (by omega)]
 ·rw [if_neg hc, if_neg (by omega), List.drop_drop, show st + 2 + (l - 2) = st + l by omega, show st + l - (st + 2) = l - 2 by omega]
  congr 1
  refine attrsP_fuel _ _ _ _ ?_ ?_ <;> (rw [List.length_drop]; omega)
theorem ok_read_attributes (T : Txt K mg t) : FnOk P w K mg base (CXF P w) 3 t.read_attributes.a t.read_attributes.fd ["data"] (spRAttrs t) := by
 refine T.packets.read_attributes.fn.okX sc_rattrs (fun vs H Q E h => ?_) (fun cdv A outer s H vs Q E hr h => ?_)
 ·obtain ⟨a, d, rfl, _⟩ := h
  rfl
 ·obtain ⟨a, d, rfl, hd, hl1, hl2, q1, q2⟩ := h
  refine ⟨_, (pss_cons (ps_set (i := 1) sc_rattrs.nd rfl (Or.inl rfl) (pe_lst pa_nil))
   (pss_cons (ps_set (i := 2) sc_rattrs.nd rfl (Or.inl rfl) (gN T "HEAD_SIZE" 20))
   (pss_cons (ps_while own_pass (pt_cmpR o_lt (pv 2) (pLen T (pv 0)) (nomark _))
   (pss_cons (ps_if (pt_cmpR o_eq (pe_op o_add (pv 2) pe_int) (pLen T (pv 0)) (nomark _))
    (pss_one (ps_raise T.packets.cNoAnswer hr rfl))
    pss_nil)
    (pss_cons (ps_set (i := 3) sc_rattrs.nd rfl (Or.inl rfl) (pe_op o_add (pv 2) (pe_ix (ix_nk K) (pv 0) (pe_op o_add (pv 2) pe_int) (fun _ _ => rfl))))
    (pss_cons (ps_if ((pw_or (pt_cmpR o_lt (pv 3) (pe_op o_add (pv 2) pe_int) (nomark _)) (pw_or1 (pt_cmpR o_gt (pv 3) (pLen T (pv 0)) (nomark _))))).pt
    (pss_one (ps_raise T.packets.cNoAnswer hr rfl))
    pss_nil)
    (pss_cons (ps_expr (pe_bm PySem.F.plainAttrs_list PySem.F.slot_list_append PySem.F.type_list_append mt_append (pv 1) (pa_cons (makeN T.packets.cAttribute T.packets.iAttribute (ok_iAttribute T) hr (pa_cons (pe_ix (ix_nk K) (pv 0) (pv 2) (fun _ _ => rfl)) (pa_cons (pe_op o_add (pv 2) pe_int) (pa_cons (pe_slice (sl_n K) (pv 0) (po_some (pe_op o_add (pv 2) pe_int)) (po_some (pv 3))) pa_nil)))) pa_nil)))
    (pss_one (ps_set (i := 2) sc_rattrs.nd rfl (Or.inl rfl) (pv 3))))))))
   (pss_one (ps_ret (pv 1)))))), ?_⟩
  refine ⟨(by show 0 ≤ sizeLine; decide), fun lm nlm => ?_⟩
  have s0 : Same H (upd H lm (.lst [])) := up nlm
  refine while_by (fun σ H1 => ∃ z st o3, σ = [some (.ref a), some (.ref lm), some (nV st), o3] ∧ st ≤ d.length ∧ 20 ≤ st ∧ Same H H1 ∧ H1 lm = some (.lst (rfs z)) ∧ (∀ H', Off lm H1 H' → ∀ q ∈ z, AtAt t H' q.1 q.2) ∧ 3 * z.length ≤ st ∧
   attrsP (d.length + 1) 20 (d.drop 20) = (attrsP (d.length + 1) st (d.drop st)).map fun m => z.map (·.2) ++ m) (fun σ H1 => match σ with | [_, _, some (.int i), _] => d.length - i.toNat | _ => 0)
   ⟨[], 20, none, rfl, hl1, Nat.le_refl _, s0, upd_same, fun H' _ q hq => absurd hq List.not_mem_nil, by decide, ?_⟩ ?_ ?_
  ·cases attrsP (d.length + 1) 20 (d.drop 20) <;> rfl
  ·rintro σ H1 ⟨z, st, o3, rfl, hs1, hs2, s1, hz, hat, hzl, he⟩
   have hd1 := s1 _ _ hd
   refine ⟨_, rfl, _, rfl, a, d, rfl, SqL.of hd1, st, d.length, rfl, rfl, _, rfl, ite2 (fun h => ?_) (fun h => ?_)⟩
   ·have h := of_decide_eq_true h
    refine ⟨_, rfl, st, 1, rfl, rfl, _, rfl, a, d, rfl, SqL.of hd1, st + 1, d.length, rfl, rfl, _, rfl, ite2 (fun h1 => ?_) (fun h1 => ?_)⟩
    ·have h1 := of_decide_eq_true h1
     refine q2 ?_ H1 s1
     rw [he]
     have : d.drop st = [d[st]] := by
      rw [List.drop_eq_getElem_cons (by omega), List.drop_of_length_le (by omega)]
     rw [this, attrsP_one]
     rfl
    ·have h1 : ¬ st + 1 = d.length := fun z => h1 (decide_eq_true z)
     have g1 : d[st]? = some (d.getD st 0) := get_of h
     have g2 : d[st + 1]? = some (d.getD (st + 1) 0) := get_of (by omega)
     rw [attrs_turn g1 g2] at he
     refine ⟨_, rfl, _, rfl, _, rfl, st, 1, rfl, rfl, a, d, st + 1, _, rfl, rfl, SqL.of hd1, g2, st, _, rfl, rfl, ?_⟩
     generalize d.getD (st + 1) 0 = l at he ⊢
     generalize d.getD st 0 = k at he g1 ⊢
     have ka := T.packets.cAttribute
     have bad : st + l < st + 3 ∨ st + l > d.length → attrsP (d.length + 1) 20 (d.drop 20) = none := fun hb => by rw [he, if_pos hb]; rfl
     refine ⟨_, rfl, _, rfl, st, 3, rfl, rfl, st + l, st + 3, rfl, rfl, _, rfl, ite2 (fun c1 => ?_) (fun c1 => ?_)⟩
     ·exact q2 (bad (.inl (of_decide_eq_true c1))) H1 s1
     ·have c1 : ¬ st + l < st + 3 := fun z => c1 (decide_eq_true z)
      refine ⟨_, rfl, _, rfl, a, d, rfl, SqL.of hd1, st + l, d.length, rfl, rfl, _, rfl, ite2 (fun c2 => ?_) (fun c2 => ?_)⟩
      ·exact q2 (bad (.inr (of_decide_eq_true c2))) H1 s1
      ·have c2 : ¬ st + l > d.length := fun z => c2 (decide_eq_true z)
       rw [if_neg (by omega)] at he
       refine ⟨_, rfl, .inl ⟨rfl, _, SqL.of hz⟩, _, rfl, _, rfl, a, d, st, k, rfl, rfl, SqL.of hd1, g1, _, rfl, st, 2, rfl, rfl, _, rfl, _, rfl, st, 2, rfl, rfl, _, rfl, _, rfl, _, rfl, a, d, rfl, SqL.of hd1, fun p2 H2 n2 sx2 l2 => ?_⟩
       rw [cutN_mid] at l2
       intro x dx nx nd ne
       refine ⟨x, dx, _, _, _, rfl, upd_same, fun H3 st3 => ⟨rfl, ?_⟩⟩
       have s23 : Same H2 H3 := made_same nx nd st3
       have hz3 := s23 _ _ (sx2 _ _ hz)
       have xlm : x ≠ lm := ne_new sx2 hz nx
       have plm : p2 ≠ lm := ne_new (Same.refl H1) hz n2
       refine ⟨lm, _, _, rfl, rfl, hz3, ?_, ?_⟩
       ·rw [List.length_map]
        exact Nat.lt_of_lt_of_le (show _ < 10000 by omega) (by decide)
       refine ⟨_, rfl, ⟨z ++ [(x, k, st + 2, (d.drop (st + 2)).take (st + l - (st + 2)))], st + l, _, rfl, by omega, by omega, put_new ((s1.trans sx2).trans s23) nlm, ?_, ?_, ?_, ?_⟩, ?_⟩
       ·rw [upd_same]
        exact congrArg (fun l => some (HO.lst l)) (List.map_append (f := fun q : Addr × At3 => V.ref q.1) (l₁ := z) (l₂ := [(x, k, st + 2, (d.drop (st + 2)).take (st + l - (st + 2)))])).symm
       ·intro H' o' q hq
        have o3 : Off lm H3 H' := o'.upd
        rcases List.mem_append.mp hq with hq | hq
        ·exact hat H' (o3.of (sx2.trans s23)) q hq
        ·rw [List.mem_singleton.mp hq]
         exact ⟨dx, p2, o3 _ _ xlm st3.1, o3 _ _ plm (s23 _ _ l2)⟩
       ·rw [List.length_append]
        show 3 * (z.length + 1) ≤ _
        omega
       ·rw [he, Option.map_map]
        congr 1
        funext m
        rw [List.map_append, List.append_assoc]
        rfl
       ·show d.length - (((st + l : Nat) : Int)).toNat < d.length - (((st : Nat) : Int)).toNat
        rw [Int.toNat_natCast, Int.toNat_natCast]
        omega
   ·have h : ¬ st < d.length := fun z => h (decide_eq_true z)
    have e0 : attrsP (d.length + 1) 20 (d.drop 20) = some (z.map (·.2)) := by
     rw [he, List.drop_of_length_le (by omega), attrsP_end]
     exact congrArg some (List.append_nil _)
    exact ⟨_, rfl, q1 _ e0 lm z H1 nlm s1 hz (hat H1 (Off.refl _ _)) rfl⟩
  ·rintro σ H1 Q1 Q2 hq ⟨v, e, v2, e2, a1, l1, e3, sq, i, j, e4, e5, b, e6, q⟩
   exact ⟨v, e, v2, e2, a1, l1, e3, sq, i, j, e4, e5, b, e6, hq _ _ q⟩
theorem min_nat (i j : Nat) : V.int (if ((j : Nat) : Int) < ((i : Nat) : Int) then ((j : Nat) : Int) else ((i : Nat) : Int)) = nV (min i j) := by
 by_cases h : j < i
 ·rw [if_pos (by omega), Nat.min_eq_right (by omega)]
 ·rw [if_neg (by omega), Nat.min_eq_left (by omega)]
def spRPacket (t : Adr) : Sp := fun vs H Q E => ∃ a, ∃ b : List Nat, vs = [.ref a] ∧ Ls H a b ∧ (∀ c ∈ b, c < 256) ∧ (∀ p, packet b = some p → ∀ x z H', Same H H' → PkAt t H' x p z → Q (.ref x) H') ∧ (packet b = none → NoA t H E)
theorem sc_rpacket : FnScope ["data", "length", "counted"] ["data"] (defScope (top 23)) := ⟨rfl, rfl, rfl, by decide +kernel, rfl, by decide +kernel, by decide +kernel⟩
theorem ok_read_packet (T : Txt K mg t) : FnOk P w K mg base (CXF P w) 4 t.read_packet.a t.read_packet.fd ["data"] (spRPacket t) := by
 refine T.packets.read_packet.fn.okX sc_rpacket (fun vs H Q E h => ?_) (fun cdv A outer s H vs Q E hr h => ?_)
 ·obtain ⟨a, b, rfl, _⟩ := h
  rfl
 ·obtain ⟨a, b, rfl, hb, hby, q1, q2⟩ := h
  refine ⟨_, (pss_cons (ps_if (pt_cmpR o_lt (pLen T (pv 0)) (gN T "HEAD_SIZE" 20) (nomark _))
   (pss_one (ps_raise T.packets.cNoAnswer hr rfl))
   pss_nil)
   (pss_cons (ps_set (i := 1) sc_rpacket.nd rfl (Or.inl rfl) (pe_op o_add (pe_op o_mul pe_int (pe_ix (ix_nk K) (pv 0) pe_int (fun _ _ => rfl))) (pe_ix (ix_nk K) (pv 0) pe_int (fun _ _ => rfl))))
   (pss_cons (ps_if (pt_not (pt_chain o_le o_le (gN T "HEAD_SIZE" 20) (pv 1) (pe_callB (call_min2 rfl) rfl (bl_in T "min") bt_min (pa_cons (gN T "MOST_SIZE" 4096) (pa_cons (pLen T (pv 0)) pa_nil)))))
   (pss_one (ps_raise T.packets.cNoAnswer hr rfl))
   pss_nil)
   (pss_cons (ps_set (i := 2) sc_rpacket.nd rfl (Or.inl rfl) (pe_slice (sl_n K) (pv 0) po_none (po_some (pv 1))))
   (pss_one (ps_ret (makeN T.packets.cPacket T.packets.iPacket (ok_iPacket T) hr (pa_cons (pv 2) (pa_cons (callX (ok_read_attributes T) T.packets.read_attributes hr passF (pa_cons (pv 2) pa_nil)) pa_nil))))))))), ?_⟩
  have bad : b.length < 20 ∨ dataLen b < 20 ∨ 4096 < dataLen b ∨ b.length < dataLen b → packet b = none := fun h => readP_none (by unfold readP; rw [if_pos h])
  refine ⟨_, rfl, a, b, rfl, SqL.of hb, b.length, 20, rfl, rfl, _, rfl, ite2 (fun h => q2 (bad (.inl (of_decide_eq_true h))) H (Same.refl H)) (fun h => ?_)⟩
  have h : ¬ b.length < 20 := fun z => h (decide_eq_true z)
  refine ⟨_, rfl, a, b, 2, _, rfl, rfl, SqL.of hb, get_of (by omega), 256, _, rfl, rfl, .inl (by decide), _, rfl, a, b, 3, _, rfl, rfl, SqL.of hb, get_of (by omega), _, _, rfl, rfl, ?_⟩
  have eL : 256 * b.getD 2 0 + b.getD 3 0 = dataLen b := rfl
  dsimp only
  rw [eL]
  refine ⟨_, rfl, 20, dataLen b, rfl, rfl, _, rfl, ite2 (fun c1 => ?_) (fun c1 => ?_)⟩
  ·have c1 := of_decide_eq_true c1
   refine ⟨_, rfl, a, b, rfl, SqL.of hb, _, _, rfl, dataLen b, min 4096 b.length, rfl, min_nat 4096 b.length, _, rfl, ?_⟩
   refine ite2 (fun c2 => ?_) (fun c2 => ?_)
   ·have c2 : ¬ dataLen b ≤ min 4096 b.length := by simpa using c2
    exact q2 (bad (by omega)) H (Same.refl H)
   ·have c2 : dataLen b ≤ min 4096 b.length := by simpa using c2
    refine ⟨_, rfl, _, rfl, _, rfl, a, b, rfl, SqL.of hb, fun p1 H1 n1 s1 l1 => ?_⟩
    rw [cutN_to] at l1
    have hl : (b.take (dataLen b)).length = dataLen b := by rw [List.length_take]; omega
    have eP : readP b = attrsP ((b.take (dataLen b)).length + 1) 20 ((b.take (dataLen b)).drop 20) := by
     unfold readP
     rw [if_neg (by omega), hl]
    refine ⟨_, rfl, _, rfl, p1, b.take (dataLen b), rfl, l1, by omega, by omega, fun m hm lm z H2 n2 s2 hz hat em => ?_, fun hn => ?_⟩
    ·rw [← eP] at hm
     obtain ⟨p, e1, ok, e2, e3, e4⟩ := readP_some hm hby
     intro x dx nx nd ne
     have l2 := s2 _ _ l1
     refine ⟨x, dx, p1, lm, b.take (dataLen b), rfl, upd_same, ?_, by omega, fun la H3 n3 l3 st3 => ⟨rfl, ?_⟩⟩
     ·unfold Ls
      rw [upd_ne (ne_of_none l2 nx), upd_ne (ne_of_none l2 nd)]
      exact l2
     ·have s23 : Same H2 H3 := made_same nx nd st3
      refine q1 p e1 x z H3 ((s1.trans s2).trans s23) ⟨by rw [em]; exact ok, ⟨dx, p1, la, lm, ?_, ?_, ?_, s23 _ _ hz⟩, fun q hq => (hat q hq).same s23, ?_⟩
      ·rw [e3, e4]
       exact st3.1
      ·rw [e2]
       exact s23 _ _ l2
      ·rw [ok.au, e2]
       exact l3
      ·rw [e3, e4, getD_take (by omega), getD_take (by omega)]
       have gi : ∀ i, i < b.length → b.getD i 0 < 256 := fun i hi => by
        rw [List.getD_eq_getElem?_getD, List.getElem?_eq_getElem hi]
        exact hby _ (List.getElem_mem hi)
       exact ⟨gi 0 (by omega), gi 1 (by omega)⟩
    ·rw [← eP] at hn
     exact fun H' s' => q2 (readP_none hn) H' (s1.trans s')
  ·have c1 : ¬ 20 ≤ dataLen b := fun z => c1 (decide_eq_true z)
   exact ⟨_, rfl, ite2 (fun _ => q2 (bad (by omega)) H (Same.refl H)) (fun z => absurd rfl z)⟩
end
end Dw
namespace Dw
open PySem L2 Sn37
section
variable {P : Program} {w : World} {K : PySem.W.Frag} {mg : Str → Option Value} {base : Heap} {t : Adr}
theorem filt_z (z : Z3) (k : Nat) : (z.map (·.2)).filter (fun a => a.1 == k) = (ofK z k).map (·.2) := by
 rw [List.filter_map]
 rfl
theorem PkAt.all {t : Adr} {H : Hp} {x : Addr} {p : Packet} {z : Z3} (h : PkAt t H x p z) (k : Nat) : p.all k = (ofK z k).map fun q => q.2.2.2 := by
 rw [all_eq h.ok.as, filt_z, List.map_map]
 rfl
theorem PkAt.in_ {t : Adr} {H : Hp} {x : Addr} {p : Packet} {z : Z3} (h : PkAt t H x p z) {k : Nat} {q : Addr × At3} (hq : q ∈ ofK z k) : AtAt t H q.1 q.2 ∧ q.2.1 = k := by
 obtain ⟨h1, h2⟩ := List.mem_filter.mp hq
 exact ⟨h.at_ q h1, by simpa using h2⟩
theorem attr_by : ∀ {m : List At3} {d : Bytes}, d = attrBytes (m.map two) → (∀ c ∈ d, c < 256) → ∀ a ∈ m, ∀ c ∈ a.2.2, c < 256
 | [], _, _, _, a, ha => absurd ha List.not_mem_nil
 | b :: m, d, e, h, a, ha => by
  have e2 : d = (b.1 :: (b.2.2.length + 2) :: b.2.2) ++ attrBytes (m.map two) := e
  rcases List.mem_cons.mp ha with rfl | ha
  ·intro c hc
   exact h c (by rw [e2]; exact List.mem_append.mpr (.inl (List.mem_cons_of_mem _ (List.mem_cons_of_mem _ hc))))
  ·exact attr_by rfl (fun c hc => h c (by rw [e2]; exact List.mem_append.mpr (.inr hc))) a ha
theorem PkAt.by_ {t : Adr} {H : Hp} {x : Addr} {p : Packet} {z : Z3} (h : PkAt t H x p z) {q : Addr × At3} (hq : q ∈ z) : By q.2.2.2 :=
 attr_by h.ok.rest.symm.symm (fun c hc => h.ok.by_ c (List.mem_of_mem_drop hc)) q.2 (List.mem_map_of_mem hq)
theorem PkAt.len_ {t : Adr} {H : Hp} {x : Addr} {p : Packet} {z : Z3} (h : PkAt t H x p z) {q : Addr × At3} (hq : q ∈ z) : q.2.2.2.length ≤ 4096 := by
 have : ∀ {m : List At3} {a : At3}, a ∈ m → a.2.2.length ≤ (attrBytes (m.map two)).length := by
  intro m
  induction m with
  | nil => exact fun ha => absurd ha List.not_mem_nil
  | cons b m ih =>
   intro a ha
   show _ ≤ (attrBytes ((b.1, b.2.2) :: m.map two)).length
   rw [attrBytes_length_cons]
   rcases List.mem_cons.mp ha with rfl | ha
   ·omega
   ·exact Nat.le_trans (ih ha) (by omega)
 have h1 := this (List.mem_map_of_mem (f := (·.2)) hq)
 rw [← h.ok.rest, List.length_drop] at h1
 have := h.ok.most
 omega
def datOf (p : Packet) (auth : Bytes) : Bytes := p.whole.take 4 ++ (auth ++ p.whole.drop 20)
def spProof (t : Adr) : Sp := fun vs H Q E => ∃ x ld ls p z, ∃ auth secret : List Nat, vs = [.ref x, .ref ld, .ref ls] ∧ PkAt t H x p z ∧ Ls H ld (datOf p auth) ∧ auth.length = 16 ∧ By auth ∧ Ls H ls secret ∧ secret.length ≤ 64 ∧ By secret ∧
 (signed p auth secret = true → ∀ H', Same H H' → Q .non H') ∧ (signed p auth secret = false → NoA t H E)
theorem sc_proof : FnScope ["packet", "data", "secret", "proof"] ["packet", "data", "secret"] (defScope (top 27)) := ⟨rfl, rfl, rfl, by decide +kernel, rfl, by decide +kernel, by decide +kernel⟩
theorem ok_check_proof (T : Txt K mg t) : FnOk P w K mg base (CXF P w) 5 t.check_proof.a t.check_proof.fd ["packet", "data", "secret"] (spProof t) := by
 refine T.packets.check_proof.fn.okX sc_proof (fun vs H Q E h => ?_) (fun cdv A outer s H vs Q E hr h => ?_)
 ·obtain ⟨x, ld, ls, p, z, auth, secret, rfl, _⟩ := h
  rfl
 ·obtain ⟨x, ld, ls, p, z, auth, secret, rfl, pk, hd, ha, hab, hs, hsl, hsb, q1, q2⟩ := h
  obtain ⟨dx, l1, l2, lm, h1, h2, h3, h4⟩ := pk.ex
  have ka := T.packets.cAttribute
  refine ⟨_, (pss_cons (ps_if (pt_not (pt_truth (methN (pv 0) T.packets.cPacket.cl T.packets.packet_all_of (ok_packet_all_of T) hr (pa_cons (gN T "PROOF" 80) pa_nil)) (fun _ => rfl)))
   (pss_one ps_retN)
   pss_nil)
   (pss_cons (ps_set (i := 3) sc_proof.nd rfl (Or.inl rfl) (methX (pv 0) T.packets.cPacket.cl T.packets.packet_only (ok_packet_only T) hr passF (pa_cons (gN T "PROOF" 80) pa_nil)))
   (pss_cons (ps_if (pt_cmpR o_ne (pLen T (fldK K (pv 3) rfl)) (gN T "SUM_SIZE" 16) (nomark _))
   (pss_one (ps_raise T.packets.cNoAnswer hr rfl))
   pss_nil)
   (pss_one (ps_if (pt_cmpR (o_neN K hr.units) (callN (ok_hmac T) T.digest.keyed_md5 hr (pa_cons (pv 2) (pa_cons (callN (ok_with_zeros T) T.packets.with_zeros hr (pa_cons (pv 1) (pa_cons (fldK K (pv 3) rfl) pa_nil))) pa_nil))) (fldK K (pv 3) rfl) (nomark _))
   (pss_one (ps_raise T.packets.cNoAnswer hr rfl))
   pss_nil))))), ?_⟩
  refine ⟨_, rfl, x, dx, _, rfl, h1, fsPacket_no "all_of", x, p, z, 80, rfl, pk, fun a H1 n1 s1 e1 => ?_⟩
  refine ⟨_, .inl ⟨_, SqL.of e1, rfl⟩, ?_⟩
  have all := pk.all 80
  refine ite2 (fun c1 => ?_) (fun c1 => ?_)
  ·have c1 : ofK z 80 = [] := by simpa using c1
   rw [c1] at all
   exact q1 (by unfold signed; rw [all]; rfl) H1 s1
  ·have c1 : ofK z 80 ≠ [] := by simpa using c1
   refine ⟨_, rfl, x, dx, _, rfl, s1 _ _ h1, fsPacket_no "only", x, p, z, 80, rfl, pk.same s1, fun y hy H2 s2 => ?_, fun hn => ?_⟩
   ·have hm : y ∈ ofK z 80 := by rw [hy]; exact List.mem_singleton.mpr rfl
    have sH := s1.trans s2
    obtain ⟨⟨dy, lv, a1, a2⟩, ek⟩ := (pk.same sH).in_ hm
    have hby := pk.by_ (List.mem_filter.mp hm).1
    rw [hy] at all
    obtain ⟨ya, yk, yp, yv⟩ := y
    have es : signed p auth secret = (yv.length == 16 && yv == hmac secret (blanked p auth)) := by
     unfold signed
     rw [all]
     rfl
    rw [es] at q1 q2
    refine ⟨_, rfl, ya, _, dy, _, _, rfl, a1, ka.cl, na ka _, fsAttribute_value, lv, yv, rfl, SqL.of a2, yv.length, 16, rfl, rfl, _, rfl, ite2 (fun c2 => ?_) (fun c2 => ?_)⟩
    ·have c2 : ¬ yv.length = 16 := by simpa using c2
     exact q2 (by rw [show (yv.length == 16) = false by simpa using c2]; rfl) H2 sH
    ·have c2 : yv.length = 16 := by simpa using c2
     have eb : zeroed (datOf p auth) yp = blanked p auth := blanked_eq pk.ok ha (by rw [filt_z, hy]; show [(yk, yp, yv)] = _; rw [show yk = 80 from ek]) c2
     have hm2 := pk.ok.most
     have hm1 := pk.ok.len
     have hdl : (datOf p auth).length = p.whole.length := by
      unfold datOf
      rw [List.length_append, List.length_append, List.length_take, List.length_drop, ha]
      omega
     have hdb : By (datOf p auth) := by
      intro c hc
      rcases List.mem_append.mp hc with hc | hc
      ·exact pk.ok.by_ c (List.mem_of_mem_take hc)
      rcases List.mem_append.mp hc with hc | hc
      ·exact hab c hc
      ·exact pk.ok.by_ c (List.mem_of_mem_drop hc)
     refine ⟨_, rfl, _, rfl, _, rfl, ya, _, dy, _, _, rfl, a1, ka.cl, na ka _, fsAttribute_place, ld, datOf p auth, yp, rfl, sH _ _ hd, by omega, fun p3 H3 n3 s3 l3 => ?_⟩
     refine ⟨ls, p3, secret, _, rfl, s3 _ _ (sH _ _ hs), l3, hsl, ?_, hsb, ?_, fun p4 H4 n4 s4 l4 => ?_⟩
     ·unfold zeroed
      rw [List.length_append, List.length_append, List.length_take, List.length_drop, List.length_replicate]
      omega
     ·intro c hc
      rcases List.mem_append.mp hc with hc | hc
      ·rcases List.mem_append.mp hc with hc | hc
       ·exact hdb c (List.mem_of_mem_take hc)
       ·rw [(List.mem_replicate.mp hc).2]
        decide
      ·exact hdb c (List.mem_of_mem_drop hc)
     rw [eb] at l4
     have s34 := s3.trans s4
     refine ⟨_, rfl, ya, _, dy, _, _, rfl, s34 _ _ a1, ka.cl, na ka _, fsAttribute_value, p4, lv, _, yv, rfl, rfl, SqL.of l4, SqL.of (s34 _ _ a2), _, rfl, ite2 (fun c3 => ?_) (fun c3 => ?_)⟩
     ·have c3 : ¬ hmac secret (blanked p auth) = yv := by simpa using c3
      refine q2 ?_ H4 (sH.trans s34)
      rw [show (yv == hmac secret (blanked p auth)) = false by simpa using fun e => c3 e.symm, Bool.and_false]
     ·have c3 : hmac secret (blanked p auth) = yv := by simpa using c3
      refine q1 ?_ H4 (sH.trans s34)
      rw [c3, c2]
      simp
   ·intro H' s'
    refine q2 ?_ H' (s1.trans s')
    unfold signed
    rw [all]
    match e : ofK z 80, c1, hn with
    | [], c1, _ => exact absurd rfl c1
    | [q], _, hn => exact absurd rfl hn
    | a :: b :: r, _, _ => rfl
end
end Dw
namespace Dw
open PySem L2 Sn37
section
variable {P : Program} {w : World} {K : PySem.W.Frag} {mg : Str → Option Value} {base : Heap} {t : Adr}
theorem attrBytes_sub {a b : List (Nat × Bytes)} (h : List.Sublist a b) : (attrBytes a).length ≤ (attrBytes b).length := by
 induction h with
 | slnil => exact Nat.le_refl _
 | cons x h ih =>
  obtain ⟨k, v⟩ := x
  rw [attrBytes_length_cons]
  omega
 | cons_cons x h ih =>
  obtain ⟨k, v⟩ := x
  rw [attrBytes_length_cons, attrBytes_length_cons]
  omega
def backs (z : Z3) (i : Nat) : List (Nat × Bytes) := ((ofK z 33).take i).map fun q => two q.2
theorem backs_all {t : Adr} {H : Hp} {x : Addr} {p : Packet} {z : Z3} (h : PkAt t H x p z) : backs z (ofK z 33).length = carried p := by
 unfold backs
 rw [List.take_length, carried_eq h.ok.as, filt_z, List.map_map]
 rfl
theorem backs_len {t : Adr} {H : Hp} {x : Addr} {p : Packet} {z : Z3} (h : PkAt t H x p z) (i : Nat) : (attrBytes (backs z i)).length ≤ 4096 := by
 have h1 : List.Sublist (backs z i) ((z.map (·.2)).map two) := by
  rw [List.map_map]
  exact ((List.take_sublist i _).trans (List.filter_sublist (l := z))).map (fun q : Addr × At3 => two q.2)
 have h2 := attrBytes_sub h1
 rw [← h.ok.rest, List.length_drop] at h2
 have := h.ok.most
 omega
theorem backs_by {t : Adr} {H : Hp} {x : Addr} {p : Packet} {z : Z3} (h : PkAt t H x p z) : ∀ c ∈ attrBytes (carried p), c < 256 := by
 intro c hc
 refine h.ok.by_ c (List.mem_of_mem_drop (i := 20) ?_)
 rw [h.ok.rest, ← h.ok.as]
 obtain ⟨a, ha, hc⟩ := List.mem_flatMap.mp hc
 exact List.mem_flatMap.mpr ⟨a, (List.mem_filter.mp ha).1, hc⟩
theorem backs_succ {z : Z3} {i : Nat} {q : Addr × At3} (h : (ofK z 33)[i]? = some q) : attrBytes (backs z (i + 1)) = attrBytes (backs z i) ++ (33 :: (q.2.2.2.length + 2) :: q.2.2.2) := by
 have hk : q.2.1 = 33 := by
  have := (List.mem_filter.mp (List.mem_of_getElem? h)).2
  simpa using this
 unfold backs
 rw [List.take_add_one, h, List.map_append, attrBytes_append]
 show _ ++ ((q.2.1 :: (q.2.2.2.length + 2) :: q.2.2.2) ++ []) = _
 rw [hk, List.append_nil]
def spAnswer (t : Adr) : Sp := fun vs H Q E => ∃ x ls lt p z, ∃ (secret : List Nat) (code : Nat) (l : List (Nat × Bytes)), vs = [.ref x, .ref ls, nV code, .ref lt] ∧ PkAt t H x p z ∧ Ls H ls secret ∧ secret.length ≤ 64 ∧ By secret ∧ code < 256 ∧ Ls H lt (attrBytes l) ∧ (attrBytes l).length ≤ 9000 ∧ By (attrBytes l) ∧
 (lenOf p l ≤ 4096 → NewL H (answer p secret code l) Q) ∧ (4096 < lenOf p l → NoA t H E)
theorem sc_answer : FnScope ["packet", "secret", "code", "told", "body", "attribute", "proved", "length", "head"] ["packet", "secret", "code", "told"] (defScope (top 28)) := ⟨rfl, rfl, rfl, by decide +kernel, rfl, by decide +kernel, by decide +kernel⟩
theorem by_app {a b : List Nat} (ha : By a) (hb : By b) : By (a ++ b) := fun c hc => (List.mem_append.mp hc).elim (ha c) (hb c)
theorem ok_make_answer (T : Txt K mg t) : FnOk P w K mg base (CXF P w) 5 t.make_answer.a t.make_answer.fd ["packet", "secret", "code", "told"] (spAnswer t) := by
 refine T.packets.make_answer.fn.okX sc_answer (fun vs H Q E h => ?_) (fun cdv A outer s H vs Q E hr h => ?_)
 ·obtain ⟨x, ls, lt, p, z, secret, code, l, rfl, _⟩ := h
  rfl
 ·obtain ⟨x, ls, lt, p, z, secret, code, l, rfl, pk, hs, hsl, hsb, hc, ht, htl, htb, q1, q2⟩ := h
  obtain ⟨dx, ld, la, lm, h1, h2, h3, h4⟩ := pk.ex
  have ka := T.packets.cAttribute
  have kp := T.packets.cPacket
  refine ⟨_, (pss_cons (ps_set (i := 4) sc_answer.nd rfl (Or.inl rfl) (pe_callTy call_list_of rfl (bl_in T "list") bt_list (pa_cons (pv 3) pa_nil)))
   (pss_cons (ps_for own_pass rfl (pi_list (methN (pv 0) T.packets.cPacket.cl T.packets.packet_all_of (ok_packet_all_of T) hr (pa_cons (gN T "PASSED_BACK" 33) pa_nil))) (pg_name (i := 5) sc_answer.nd rfl (Or.inl rfl))
   (pss_one (ps_expr (pe_bm PySem.F.plainAttrs_list PySem.F.slot_list_extend PySem.F.type_list_extend mt_extend (pv 4) (pa_cons (callN (ok_attribute_bytes T) T.packets.attribute_bytes hr (pa_cons (gN T "PASSED_BACK" 33) (pa_cons (fldK K (pv 5) rfl) pa_nil))) pa_nil)))))
   (pss_cons (ps_set (i := 6) sc_answer.nd rfl (Or.inl rfl) (pe_cmpR o_gt (pLenV T (methN (pv 0) T.packets.cPacket.cl T.packets.packet_all_of (ok_packet_all_of T) hr (pa_cons (gN T "PROOF" 80) pa_nil))) pe_int (nomark _)))
   (pss_cons (ps_if (pt_truth (pv 6) (fun _ => rfl))
   (pss_one (ps_expr (pe_bm PySem.F.plainAttrs_list PySem.F.slot_list_extend PySem.F.type_list_extend mt_extend (pv 4) (pa_cons (callN (ok_attribute_bytes T) T.packets.attribute_bytes hr (pa_cons (gN T "PROOF" 80) (pa_cons (pe_op o_rep (pe_lst (pa_cons pe_int pa_nil)) (gN T "SUM_SIZE" 16)) pa_nil))) pa_nil))))
   pss_nil)
   (pss_cons (ps_set (i := 7) sc_answer.nd rfl (Or.inl rfl) (pe_op o_add (gN T "HEAD_SIZE" 20) (pLen T (pv 4))))
   (pss_cons (ps_if (pt_cmpR o_gt (pv 7) (gN T "MOST_SIZE" 4096) (nomark _))
   (pss_one (ps_raise T.packets.cNoAnswer hr rfl))
   pss_nil)
   (pss_cons (ps_set (i := 8) sc_answer.nd rfl (Or.inl rfl) (pe_lst (pa_cons (pv 2) (pa_cons (fldK K (pv 0) rfl) (pa_cons (pe_op o_div (pv 7) pe_int) (pa_cons (pe_op o_mod (pv 7) pe_int) pa_nil))))))
   (pss_cons (ps_if (pt_truth (pv 6) (fun _ => rfl))
   (pss_one (ps_set (i := 4) sc_answer.nd rfl (Or.inl rfl) (pe_op o_cat (pe_slice (sl_n K) (pv 4) po_none (po_some (pe_un un_neg (gN T "SUM_SIZE" 16)))) (callN (ok_hmac T) T.digest.keyed_md5 hr (pa_cons (pv 1) (pa_cons (pe_op o_cat (pe_op o_cat (pv 8) (fldK K (pv 0) rfl)) (pv 4)) pa_nil))))))
   pss_nil)
   (pss_one (ps_ret (pe_op o_cat (pe_op o_cat (pv 8) (callN (ok_md5 T) T.digest.md5 hr (pa_cons (pe_op o_cat (pe_op o_cat (pe_op o_cat (pv 8) (fldK K (pv 0) rfl)) (pv 4)) (pv 1)) pa_nil))) (pv 4)))))))))))), ?_⟩
  refine ⟨_, rfl, lt, _, rfl, .inl (SqL.of ht), fun b nb0 => ?_⟩
  have s0 : Same H (upd H b (.lst (nb (attrBytes l)))) := up nb0
  refine ⟨_, rfl, x, dx, _, rfl, s0 _ _ h1, fsPacket_no "all_of", x, p, z, 33, rfl, pk.same s0, fun a H1 n1 s1 e1 => ?_⟩
  refine ⟨a, rfl, ⟨_, SqL.of e1⟩, for_list (xs := rfs (ofK z 33)) (fun i σ H2 => Same H H2 ∧ H2 a = some (.lst (rfs (ofK z 33))) ∧ Ls H2 b (attrBytes l ++ attrBytes (backs z i)) ∧ ∃ o5, σ = [some (.ref x), some (.ref ls), some (nV code), some (.ref lt), some (.ref b), o5, none, none, none]) ?_ ?_ ?_ ?_⟩
  ·refine ⟨s0.trans s1, e1, ?_, none, rfl⟩
   show Ls H1 b (attrBytes l ++ [])
   rw [List.append_nil]
   exact s1 _ _ upd_same
  ·rintro i σ H2 _ ⟨_, k, _⟩
   exact SqL.of k
  ·rintro i y σ H2 hy ⟨s2, k2, lb, o5, rfl⟩
   obtain ⟨q, hq, rfl⟩ : ∃ q, (ofK z 33)[i]? = some q ∧ y = V.ref q.1 := by
    rw [List.getElem?_map] at hy
    cases e : (ofK z 33)[i]? with
    | none => rw [e] at hy; cases hy
    | some n => rw [e] at hy; exact ⟨n, rfl, (Option.some.inj hy).symm⟩
   have hm := List.mem_of_getElem? hq
   obtain ⟨⟨dy, lv, a1, a2⟩, ek⟩ := (pk.same s2).in_ hm
   have hvl := pk.len_ (List.mem_filter.mp hm).1
   refine ⟨_, rfl, .inl ⟨rfl, _, SqL.of lb⟩, _, rfl, q.1, _, dy, _, _, rfl, a1, ka.cl, na ka _, fsAttribute_value, lv, 33, q.2.2.2, rfl, a2, by omega, fun p3 H3 n3 s3 l3 => ?_⟩
   refine ⟨b, p3, _, _, rfl, rfl, s3 _ _ lb, l3, ?_, put_new (s2.trans s3) nb0, ?_, ?_, _, rfl⟩
   ·have := backs_len pk i
    rw [nb_length, nb_length, List.length_append, List.length_cons, List.length_cons]
    exact Nat.le_trans (show _ ≤ 100000 by omega) (by decide)
   ·have hab : a ≠ b := fun e => by
     rw [e] at n1
     rw [upd_same] at n1
     cases n1
    rw [upd_ne hab]
    exact s3 _ _ k2
   ·unfold Ls
    rw [upd_same, ← nb_append, backs_succ hq, List.append_assoc]
  ·rintro σ H2 ⟨s2, k2, lb, o5, rfl⟩
   have eb : attrBytes l ++ attrBytes (backs z (rfs (ofK z 33)).length) = bodyOf p l := by
    rw [List.length_map, backs_all pk, ← attrBytes_append]
    rfl
   rw [eb] at lb
   have hbl : (bodyOf p l).length ≤ 13100 := by
    have := backs_len pk (rfs (ofK z 33)).length
    rw [← eb, List.length_append]
    omega
   have hbb : By (bodyOf p l) := by
    intro c hc
    rw [← eb] at hc
    rcases List.mem_append.mp hc with hc | hc
    ·exact htb c hc
    ·rw [List.length_map, backs_all pk] at hc
     exact backs_by pk c hc
   refine ⟨_, rfl, x, dx, _, rfl, s2 _ _ h1, fsPacket_no "all_of", x, p, z, 80, rfl, pk.same s2, fun a3 H3 n3 s3 e3 => ?_⟩
   refine ⟨a3, _, rfl, .inl (SqL.of e3), _, 0, rfl, rfl, ?_⟩
   have ea : decide (0 < (rfs (ofK z 80)).length) = asked80 p := by
    rw [asked80_eq pk.ok.as, filt_z, List.length_map, List.length_map]
   have sH := s2.trans s3
   have lb3 := s3 _ _ lb
   have hau := auth_length pk.ok
   have haub : By p.auth := by
    intro c hc
    rw [pk.ok.au] at hc
    exact pk.ok.by_ c (List.mem_of_mem_drop (List.mem_of_mem_take hc))
   have hid := pk.by1.2
   cases hask : asked80 p with
   | false =>
    have eL : lenOf p l = 20 + (bodyOf p l).length := by
     unfold lenOf
     rw [hask]
     rfl
    refine ⟨_, rfl, false, (ea.trans hask).symm, ite2 (fun z => absurd z (by decide)) (fun _ => ?_)⟩
    refine ⟨_, rfl, b, _, rfl, SqL.of lb3, 20, _, rfl, rfl, _, rfl, _, 4096, rfl, rfl, _, rfl, ite2 (fun c1 => ?_) (fun c1 => ?_)⟩
    ·have c1 := of_decide_eq_true c1
     exact q2 (by rw [eL]; exact c1) H3 sH
    ·have c1 : ¬ 4096 < 20 + (bodyOf p l).length := fun z => c1 (decide_eq_true z)
     rw [← eL] at c1
     dsimp only
     rw [← eL]
     refine ⟨_, rfl, _, rfl, x, _, dx, _, _, rfl, sH _ _ h1, kp.cl, na kp _, fsPacket_number, _, rfl, lenOf p l, 256, rfl, rfl, ⟨by decide, by decide⟩, _, rfl, lenOf p l, 256, rfl, rfl, (by show (0 : Nat) < 256; decide), (by show 4 ≤ sizeLine; decide), fun ph nh => ?_⟩
     obtain ⟨HD, hHDe⟩ : ∃ HD : List Nat, HD = [code, p.id, lenOf p l / 256, lenOf p l % 256] := ⟨_, rfl⟩
     have lh : Ls (upd H3 ph (.lst (nb [code, p.id, lenOf p l / 256, lenOf p l % 256]))) ph HD := by rw [hHDe]; exact upd_same
     have shh : Same H3 (upd H3 ph (.lst (nb [code, p.id, lenOf p l / 256, lenOf p l % 256]))) := up nh
     have hHD : By HD := by
      intro c hcc
      rw [hHDe] at hcc
      simp only [List.mem_cons, List.not_mem_nil, or_false] at hcc
      omega
     have SH := sH.trans shh
     have hBO := hbb
     have lbh := shh _ _ lb3
     have hHDl : HD.length = 4 := by rw [hHDe]; rfl
     have eAns := answer_plain (secret := secret) (code := code) hask (show lenOf p l ≤ 4096 by omega)
     rw [← hHDe] at eAns
     generalize hBOe : bodyOf p l = BO at *
     refine ⟨_, rfl, false, (ea.trans hask).symm, ite2 (fun z => absurd z (by decide)) (fun _ => ?_)⟩
     refine ⟨_, rfl, _, rfl, _, rfl, x, _, dx, _, _, rfl, SH _ _ h1, kp.cl, na kp _, fsPacket_authenticator, ph, la, HD, p.auth, rfl, rfl, lh, SH _ _ h3, (by rw [hau, hHDl]; show 4 + 16 ≤ 200000; decide), fun p5 H5 n5 s5 l5 => ?_⟩
     refine ⟨_, rfl, p5, b, _, BO, rfl, rfl, l5, s5 _ _ lbh, (by rw [List.length_append, hau]; rw [hHDl]; show 4 + 16 + _ ≤ 200000; omega), fun p6 H6 n6 s6 l6 => ?_⟩
     have s56 := s5.trans s6
     refine ⟨_, rfl, p6, ls, _, secret, rfl, rfl, l6, s56 _ _ (SH _ _ hs), (by rw [List.length_append, List.length_append, hau]; rw [hHDl]; show 4 + 16 + _ + _ ≤ 200000; omega), fun p7 H7 n7 s7 l7 => ?_⟩
     have s57 := s56.trans s7
     refine ⟨p7, _, rfl, l7, (by rw [List.length_append, List.length_append, List.length_append, hau]; rw [hHDl]; show 4 + 16 + _ + _ ≤ 40000; omega), by_app (by_app (by_app hHD haub) hBO) hsb, fun p8 H8 n8 s8 l8 => ?_⟩
     have s58 := s57.trans s8
     refine ⟨ph, p8, HD, _, rfl, rfl, s58 _ _ lh, l8, (by rw [md5_length]; rw [hHDl]; show 4 + 16 ≤ 200000; decide), fun p9 H9 n9 s9 l9 => ?_⟩
     have s59 := s58.trans s9
     refine ⟨_, rfl, p9, b, _, BO, rfl, rfl, l9, s59 _ _ lbh, (by rw [List.length_append, md5_length]; rw [hHDl]; show 4 + 16 + _ ≤ 200000; omega), fun pa Ha na_ sa lx => ?_⟩
     refine q1 (by omega) pa Ha ((SH.trans s59).free na_) ((SH.trans s59).trans sa) ?_
     rw [eAns]
     exact lx
   | true =>
    have eL : lenOf p l = 20 + (bodyOf p l ++ (80 :: 18 :: List.replicate 16 0)).length := by
     unfold lenOf
     rw [hask, List.length_append]
     show 20 + (bodyOf p l).length + 18 = 20 + ((bodyOf p l).length + 18)
     omega
    refine ⟨_, rfl, true, (ea.trans hask).symm, ite2 (fun _ => ?_) (fun z => absurd rfl z)⟩
    refine ⟨_, rfl, .inl ⟨rfl, _, SqL.of lb3⟩, (by show 1 ≤ sizeLine; decide), fun p4 n4 => ?_⟩
    have s4 : Same H3 (upd H3 p4 (.lst (nb [0]))) := up n4
    refine ⟨p4, 0, 16, _, rfl, rfl, rfl, by decide, by decide, upd_same, fun p5 H5 n5 s5 l5 => ?_⟩
    refine ⟨p5, 80, _, rfl, l5, (by rw [List.length_replicate]; decide), fun p6 H6 n6 s6 l6 => ?_⟩
    rw [List.length_replicate] at l6
    have lb6 := s6 _ _ (s5 _ _ (s4 _ _ lb3))
    refine ⟨b, p6, _, _, rfl, rfl, lb6, l6, ?_, ?_⟩
    ·rw [nb_length, nb_length]
     exact Nat.le_trans (show _ ≤ 13100 + 18 from Nat.add_le_add hbl (Nat.le_refl _)) (by decide)
    have s7 : Same H (upd H6 b (.lst (nb (bodyOf p l) ++ nb (80 :: 18 :: List.replicate 16 0)))) := put_new (((sH.trans s4).trans s5).trans s6) nb0
    have lb7 : Ls (upd H6 b (.lst (nb (bodyOf p l) ++ nb (80 :: 18 :: List.replicate 16 0)))) b (bodyOf p l ++ (80 :: 18 :: List.replicate 16 0)) := by
     unfold Ls
     rw [upd_same, nb_append]
    generalize upd H6 b (.lst (nb (bodyOf p l) ++ nb (80 :: 18 :: List.replicate 16 0))) = H7 at s7 lb7 ⊢
    refine ⟨_, rfl, b, _, rfl, SqL.of lb7, 20, _, rfl, rfl, _, rfl, _, 4096, rfl, rfl, _, rfl, ite2 (fun c1 => ?_) (fun c1 => ?_)⟩
    ·have c1 := of_decide_eq_true c1
     exact q2 (by rw [eL]; exact c1) H7 s7
    ·have c1 : ¬ 4096 < 20 + (bodyOf p l ++ (80 :: 18 :: List.replicate 16 0)).length := fun z => c1 (decide_eq_true z)
     rw [← eL] at c1
     dsimp only
     rw [← eL]
     refine ⟨_, rfl, _, rfl, x, _, dx, _, _, rfl, s7 _ _ h1, kp.cl, na kp _, fsPacket_number, _, rfl, lenOf p l, 256, rfl, rfl, ⟨by decide, by decide⟩, _, rfl, lenOf p l, 256, rfl, rfl, (by show (0 : Nat) < 256; decide), (by show 4 ≤ sizeLine; decide), fun ph nh => ?_⟩
     obtain ⟨HD, hHDe⟩ : ∃ HD : List Nat, HD = [code, p.id, lenOf p l / 256, lenOf p l % 256] := ⟨_, rfl⟩
     have lh : Ls (upd H7 ph (.lst (nb [code, p.id, lenOf p l / 256, lenOf p l % 256]))) ph HD := by rw [hHDe]; exact upd_same
     have shh : Same H7 (upd H7 ph (.lst (nb [code, p.id, lenOf p l / 256, lenOf p l % 256]))) := up nh
     have hHD : By HD := by
      intro c hcc
      rw [hHDe] at hcc
      simp only [List.mem_cons, List.not_mem_nil, or_false] at hcc
      omega
     have SHa := s7.trans shh
     have hHDl : HD.length = 4 := by rw [hHDe]; rfl
     have eAns := answer_summed (secret := secret) (code := code) hask (show lenOf p l ≤ 4096 by omega)
     dsimp only at eAns
     rw [← hHDe] at eAns
     have lb8 := shh _ _ lb7
     have hb0l : (bodyOf p l ++ (80 :: 18 :: List.replicate 16 0)).length ≤ 13200 := by omega
     have hb0b : By (bodyOf p l ++ (80 :: 18 :: List.replicate 16 0)) := by
      refine by_app hbb fun c hcc => ?_
      rcases List.mem_cons.mp hcc with rfl | hcc
      ·decide
      rcases List.mem_cons.mp hcc with rfl | hcc
      ·decide
      rw [(List.mem_replicate.mp hcc).2]
      decide
     have ecut : (bodyOf p l ++ (80 :: 18 :: List.replicate 16 0)).take ((bodyOf p l ++ (80 :: 18 :: List.replicate 16 0)).length - 16) = bodyOf p l ++ [80, 18] := by
      rw [show bodyOf p l ++ (80 :: 18 :: List.replicate 16 0) = (bodyOf p l ++ [80, 18]) ++ List.replicate 16 0 by rw [List.append_assoc]; rfl]
      exact List.take_left' (by rw [List.length_append (bs := List.replicate 16 0), List.length_replicate]; omega)
     generalize hB0 : bodyOf p l ++ (80 :: 18 :: List.replicate 16 0) = B0 at *
     refine ⟨_, rfl, true, (ea.trans hask).symm, ite2 (fun _ => ?_) (fun z => absurd rfl z)⟩
     refine ⟨_, rfl, _, rfl, _, rfl, b, B0, rfl, SqL.of lb8, fun c8 G8 m8 t8 k8 => ?_⟩
     have ec := cutN_butlast B0 16 (by decide)
     rw [ecut] at ec
     have k8 : Ls G8 c8 (bodyOf p l ++ [80, 18]) := by rw [← ec]; exact k8
     have SHb := SHa.trans t8
     refine ⟨_, rfl, _, rfl, _, rfl, x, _, dx, _, _, rfl, SHb _ _ h1, kp.cl, na kp _, fsPacket_authenticator, ph, la, HD, p.auth, rfl, rfl, t8 _ _ lh, SHb _ _ h3, (by rw [hau, hHDl]; decide), fun c5 G5 m5 t5 k5 => ?_⟩
     refine ⟨_, rfl, c5, b, _, B0, rfl, rfl, k5, t5 _ _ (t8 _ _ lb8), (by rw [List.length_append, hau, hHDl]; omega), fun c6 G6 m6 t6 k6 => ?_⟩
     have SHc := (SHb.trans t5).trans t6
     refine ⟨ls, c6, secret, _, rfl, SHc _ _ hs, k6, hsl, (by rw [List.length_append, List.length_append, hau, hHDl]; omega), hsb, by_app (by_app hHD haub) hb0b, fun c7 G7 m7 t7 k7 => ?_⟩
     have k87 := t7 _ _ (t6 _ _ (t5 _ _ k8))
     refine ⟨c8, c7, _, _, rfl, rfl, k87, k7, (by rw [hmac_length, List.length_append]; show _ + 2 + 16 ≤ 200000; omega), fun bb G9 m9 t9 lbh => ?_⟩
     have SH := (SHc.trans t7).trans t9
     have lhh := t9 _ _ (t7 _ _ (t6 _ _ (t5 _ _ (t8 _ _ lh))))
     have hBO : By (bodyOf p l ++ [80, 18] ++ hmac secret (HD ++ p.auth ++ B0)) := by
      refine by_app (by_app hbb fun c hcc => ?_) (md5_lt _)
      simp only [List.mem_cons, List.not_mem_nil, or_false] at hcc
      omega
     have hBOl : (bodyOf p l ++ [80, 18] ++ hmac secret (HD ++ p.auth ++ B0)).length ≤ 13200 := by
      rw [List.length_append, hmac_length, List.length_append]
      show _ + 2 + 16 ≤ _
      omega
     generalize bodyOf p l ++ [80, 18] ++ hmac secret (HD ++ p.auth ++ B0) = BO at *
     refine ⟨_, rfl, _, rfl, _, rfl, x, _, dx, _, _, rfl, SH _ _ h1, kp.cl, na kp _, fsPacket_authenticator, ph, la, HD, p.auth, rfl, rfl, lhh, SH _ _ h3, (by rw [hau, hHDl]; show 4 + 16 ≤ 200000; decide), fun p5 H5 n5 s5 l5 => ?_⟩
     refine ⟨_, rfl, p5, bb, _, BO, rfl, rfl, l5, s5 _ _ lbh, (by rw [List.length_append, hau]; rw [hHDl]; show 4 + 16 + _ ≤ 200000; omega), fun p6 H6 n6 s6 l6 => ?_⟩
     have s56 := s5.trans s6
     refine ⟨_, rfl, p6, ls, _, secret, rfl, rfl, l6, s56 _ _ (SH _ _ hs), (by rw [List.length_append, List.length_append, hau]; rw [hHDl]; show 4 + 16 + _ + _ ≤ 200000; omega), fun p7 H7 n7 s7 l7 => ?_⟩
     have s57 := s56.trans s7
     refine ⟨p7, _, rfl, l7, (by rw [List.length_append, List.length_append, List.length_append, hau]; rw [hHDl]; show 4 + 16 + _ + _ ≤ 40000; omega), by_app (by_app (by_app hHD haub) hBO) hsb, fun p8 H8 n8 s8 l8 => ?_⟩
     have s58 := s57.trans s8
     refine ⟨ph, p8, HD, _, rfl, rfl, s58 _ _ lhh, l8, (by rw [md5_length]; rw [hHDl]; show 4 + 16 ≤ 200000; decide), fun p9 H9 n9 s9 l9 => ?_⟩
     have s59 := s58.trans s9
     refine ⟨_, rfl, p9, bb, _, BO, rfl, rfl, l9, s59 _ _ lbh, (by rw [List.length_append, md5_length]; rw [hHDl]; show 4 + 16 + _ ≤ 200000; omega), fun pa Ha na_ sa lx => ?_⟩
     refine q1 (by omega) pa Ha ((SH.trans s59).free na_) ((SH.trans s59).trans sa) ?_
     rw [eAns]
     exact lx
end
end Dw
namespace Dw
open PySem L2 Sn37
theorem gStr {X : Cx} {x y : Str} {pos : Pos} (h : ∃ u, X.mg x = some (.str y u)) (hg : Gl X x := by rfl) (hd : (x == ("__debug__" : Str)) = false := by decide) : PE X (.Name x pos) (tC (.str y)) := let ⟨u, e⟩ := h; pe_glob hg e ⟨u, rfl⟩ hd
section
variable {P : Program} {w : World} {K : PySem.W.Frag} {mg : Str → Option Value} {base : Heap} {t : Adr}
def spCodes : Sp := fun vs H Q _ => ∃ x : Str, vs = [.str x] ∧ x.cps.size ≤ 100000 ∧ NewL H x.cps.toList Q
theorem sc_codes : FnScope ["text", "sign"] ["text"] (defScope (top 31)) := ⟨rfl, rfl, rfl, by decide +kernel, rfl, by decide +kernel, by decide +kernel⟩
theorem ok_codes (T : Txt K mg t) : FnOk P w K mg base CX0 1 t.codes.a t.codes.fd ["text"] spCodes := by
 refine T.signs.codes.fn.ok sc_codes (fun vs H Q E h => ?_) (fun cdv A outer s H vs Q E hr h => ?_)
 ·obtain ⟨x, rfl, _⟩ := h
  rfl
 ·obtain ⟨x, rfl, hl, q⟩ := h
  refine ⟨_, (pss_one (ps_ret (pe_lc (own := [("sign", 1)]) rfl sc_codes.nd (pi_str (pv 0)) (blkOk_by (by kernel_rfl)) (fun _ _ _ _ _ => (pg_name (i := 1) sc_codes.nd rfl (Or.inl rfl))) (fun _ _ _ _ _ => pts_nil) (fun _ _ _ _ _ => (pe_callB call_ord rfl (bl_in T "ord") bt_ord (pa_cons (pv 1) pa_nil)))))), ?_⟩
  refine ⟨_, rfl, x, rfl, fun D hD => ?_⟩
  refine lc_gen (n := x.cps.size) (fun i H1 => H1 = upd H D (.lst (nb (x.cps.toList.take i)))) rfl (fun i H1 hi _ => hi) (fun H1 _ => Nat.le_refl _) ?_ ?_
  ·rintro i H1 y H2 hi rfl ⟨rfl, c, hc, rfl⟩
   have hc' : x.cps.toList[i]? = some c := by rw [Array.getElem?_toList]; exact hc
   refine ⟨rfl, _, rfl, ⟨#[c]⟩, rfl, rfl, _, upd_same, small' ?_, ?_⟩
   ·rw [nb_length, List.length_take, Array.length_toList]
    omega
   ·rw [upd_upd, List.take_add_one, hc', nb_append]
    rfl
  ·rintro H1 rfl
   refine q D _ hD (up hD) ?_
   unfold Ls
   rw [upd_same, ← Array.length_toList, List.take_length]
abbrev hexS : Str := "0123456789abcdef"
theorem hex_at : ∀ d, d < 16 → hexS.cps.toList[d]? = some (if d < 10 then 48 + d else 87 + d) := by decide +kernel
def spHex : Sp := fun vs H Q _ => ∃ a, ∃ b : List Nat, vs = [.ref a] ∧ Ls H a b ∧ By b ∧ b.length ≤ 40000 ∧ NewL H (hex b) Q
theorem sc_hex : FnScope ["row", "digits", "byte"] ["row"] (defScope (top 32)) := ⟨rfl, rfl, rfl, by decide +kernel, rfl, by decide +kernel, by decide +kernel⟩
theorem hex_snoc (b : List Nat) (c : Nat) : hex (b ++ [c]) = hex b ++ [if c / 16 < 10 then 48 + c / 16 else 87 + c / 16] ++ [if c % 16 < 10 then 48 + c % 16 else 87 + c % 16] := by
 unfold hex
 rw [List.flatMap_append, List.append_assoc]
 rfl
theorem ok_hex_codes (T : Txt K mg t) : FnOk P w K mg base CX0 1 t.hex_codes.a t.hex_codes.fd ["row"] spHex := by
 refine T.signs.hex_codes.fn.ok sc_hex (fun vs H Q E h => ?_) (fun cdv A outer s H vs Q E hr h => ?_)
 ·obtain ⟨a, b, rfl, _⟩ := h
  rfl
 ·obtain ⟨a, b, rfl, hb, hby, hl, q⟩ := h
  refine ⟨_, (pss_cons (ps_set (i := 1) sc_hex.nd rfl (Or.inl rfl) (pe_lst pa_nil))
   (pss_cons (ps_for PassesOwn.never rfl (pi_list (pv 0)) (pg_name (i := 2) sc_hex.nd rfl (Or.inl rfl))
   (pss_cons (ps_expr (pe_bm PySem.F.plainAttrs_list PySem.F.slot_list_append PySem.F.type_list_append mt_append (pv 1) (pa_cons (pe_callB call_ord rfl (bl_in T "ord") bt_ord (pa_cons (pe_ix ix_str (gStr T.signs.HEX_DIGITS) (pe_op o_div (pv 2) pe_int) (fun _ _ => rfl)) pa_nil)) pa_nil)))
    (pss_one (ps_expr (pe_bm PySem.F.plainAttrs_list PySem.F.slot_list_append PySem.F.type_list_append mt_append (pv 1) (pa_cons (pe_callB call_ord rfl (bl_in T "ord") bt_ord (pa_cons (pe_ix ix_str (gStr T.signs.HEX_DIGITS) (pe_op o_mod (pv 2) pe_int) (fun _ _ => rfl)) pa_nil)) pa_nil))))))
   (pss_one (ps_ret (pv 1))))), ?_⟩
  refine ⟨(by show 0 ≤ sizeLine; decide), fun D hD => ?_⟩
  have s0 : Same H (upd H D (.lst [])) := up hD
  refine ⟨_, rfl, a, rfl, ⟨_, SqL.of (s0 _ _ hb)⟩, for_list (xs := nb b) (fun i σ H1 => H1 = upd H D (.lst (nb (hex (b.take i)))) ∧ ∃ o2, σ = [some (.ref a), some (.ref D), o2]) ⟨rfl, _, rfl⟩ ?_ ?_ ?_⟩
  ·rintro i σ H1 _ ⟨rfl, _⟩
   exact SqL.of ((up hD) _ _ hb)
  ·rintro i y σ H1 hy ⟨rfl, o2, rfl⟩
   obtain ⟨c, hc, rfl⟩ : ∃ c, b[i]? = some c ∧ y = nV c := by
    rw [List.getElem?_map] at hy
    cases e : b[i]? with
    | none => rw [e] at hy; cases hy
    | some n => rw [e] at hy; exact ⟨n, rfl, (Option.some.inj hy).symm⟩
   have hc8 := hby c (List.mem_of_getElem? hc)
   have hil := (List.getElem?_eq_some_iff.mp hc).1
   have hle := hex_length (b.take i)
   rw [List.length_take] at hle
   refine ⟨_, rfl, .inl ⟨rfl, _, SqL.of upd_same⟩, _, rfl, c, 16, rfl, rfl, ⟨by decide, by decide⟩, hexS, _, _, rfl, rfl, (by decide +kernel), atI_nat (hex_at (c / 16) (by omega)), _, rfl, rfl, D, _, _, rfl, rfl, upd_same, small' (by rw [nb_length]; omega), ?_⟩
   rw [upd_upd]
   refine ⟨_, rfl, .inl ⟨rfl, _, SqL.of upd_same⟩, _, rfl, c, 16, rfl, rfl, (by show (0 : Nat) < 16; decide), hexS, _, _, rfl, rfl, (by decide +kernel), atI_nat (hex_at (c % 16) (by omega)), _, rfl, rfl, D, _, _, rfl, rfl, upd_same, small' (by rw [List.length_append, nb_length]; show _ + 1 ≤ _; omega), ?_, _, rfl⟩
   rw [upd_upd, List.take_add_one, hc]
   show _ = upd H D (.lst (nb (hex (b.take i ++ [c]))))
   rw [hex_snoc, nb_append, nb_append]
   rfl
  ·rintro σ H1 ⟨rfl, o2, rfl⟩
   refine ⟨_, rfl, q D _ hD (up hD) ?_⟩
   unfold Ls
   rw [upd_same, nb_length, List.take_length]
def Off2 (a c : Addr) (H H' : Hp) : Prop := ∀ b u, b ≠ a → b ≠ c → H b = some u → H' b = some u
abbrev ZB := List (Addr × Bytes)
abbrev zr (z : ZB) : List V := z.map fun q => V.ref q.1
abbrev zb (z : ZB) : List Bytes := z.map fun q => q.2
theorem zr_snoc (z : ZB) (q : Addr × Bytes) : zr (z ++ [q]) = zr z ++ [V.ref q.1] := List.map_append
theorem zb_snoc (z : ZB) (q : Addr × Bytes) : zb (z ++ [q]) = zb z ++ [q.2] := List.map_append
def spParted : Sp := fun vs H Q _ => ∃ a, ∃ (b : List Nat) (mark : Nat), vs = [.ref a, nV mark] ∧ Ls H a b ∧ b.length ≤ 90000 ∧
 ∀ D z H', H D = none → Same H H' → H' D = some (.lst (zr z)) → (∀ q ∈ z, Ls H' q.1 q.2) → zb z = partA mark b [] → Q (.ref D) H'
theorem sc_parted : FnScope ["row", "mark", "parts", "part", "byte"] ["row", "mark"] (defScope (top 33)) := ⟨rfl, rfl, rfl, by decide +kernel, rfl, by decide +kernel, by decide +kernel⟩
theorem ok_parted (T : Txt K mg t) : FnOk P w K mg base CX0 1 t.parted.a t.parted.fd ["row", "mark"] spParted := by
 refine T.signs.parted.fn.ok sc_parted (fun vs H Q E h => ?_) (fun cdv A outer s H vs Q E hr h => ?_)
 ·obtain ⟨a, b, mark, rfl, _⟩ := h
  rfl
 ·obtain ⟨a, b, mark, rfl, hb, hl, q⟩ := h
  refine ⟨_, (pss_cons (ps_set (i := 2) sc_parted.nd rfl (Or.inl rfl) (pe_lst pa_nil))
   (pss_cons (ps_set (i := 3) sc_parted.nd rfl (Or.inl rfl) (pe_lst pa_nil))
   (pss_cons (ps_for PassesOwn.never rfl (pi_list (pv 0)) (pg_name (i := 4) sc_parted.nd rfl (Or.inl rfl))
   (pss_one (ps_if (pt_cmpR o_eq (pv 4) (pv 1) (nomark _))
    (pss_cons (ps_expr (pe_bm PySem.F.plainAttrs_list PySem.F.slot_list_append PySem.F.type_list_append mt_append (pv 2) (pa_cons (pv 3) pa_nil)))
     (pss_one (ps_set (i := 3) sc_parted.nd rfl (Or.inl rfl) (pe_lst pa_nil))))
    (pss_one (ps_expr (pe_bm PySem.F.plainAttrs_list PySem.F.slot_list_append PySem.F.type_list_append mt_append (pv 3) (pa_cons (pv 4) pa_nil)))))))
   (pss_cons (ps_expr (pe_bm PySem.F.plainAttrs_list PySem.F.slot_list_append PySem.F.type_list_append mt_append (pv 2) (pa_cons (pv 3) pa_nil)))
   (pss_one (ps_ret (pv 2))))))), ?_⟩
  refine ⟨(by show 0 ≤ sizeLine; decide), fun D hD => ⟨(by show 0 ≤ sizeLine; decide), fun pa0 np0 => ?_⟩⟩
  have s0 : Same H (upd H D (.lst [])) := up hD
  have s1 : Same (upd H D (.lst [])) (upd (upd H D (.lst [])) pa0 (.lst [])) := up np0
  have hD1 : upd H D (.lst []) D = some (.lst []) := upd_same
  have hpd0 : pa0 ≠ D := ne_new (Same.refl _) hD1 np0
  have np0' : H pa0 = none := s0.free np0
  refine ⟨_, rfl, a, rfl, ⟨_, SqL.of (s1 _ _ (s0 _ _ hb))⟩, for_list (xs := nb b) (fun i σ H1 => ∃ z pa p o4, σ = [some (.ref a), some (nV mark), some (.ref D), some (.ref pa), o4] ∧ Same H H1 ∧ H pa = none ∧ pa ≠ D ∧ H1 D = some (.lst (zr z)) ∧ Ls H1 pa p ∧ z.length ≤ i ∧ p.length ≤ i ∧
   (∀ H', Off2 D pa H1 H' → ∀ q ∈ z, Ls H' q.1 q.2) ∧ zb z ++ partA mark (b.drop i) p = partA mark b []) ⟨[], pa0, [], _, rfl, s0.trans s1, np0', hpd0, s1 _ _ hD1, upd_same, Nat.le_refl _, Nat.le_refl _, fun _ _ _ h => absurd h List.not_mem_nil, rfl⟩ ?_ ?_ ?_⟩
  ·rintro i σ H1 _ ⟨z, pa, p, o4, rfl, s2, _⟩
   exact SqL.of (s2 _ _ hb)
  ·rintro i y σ H1 hy ⟨z, pa, p, o4, rfl, s2, npa, hpd, hz, hp, hzl, hpl, hat, he⟩
   obtain ⟨c, hc, rfl⟩ : ∃ c, b[i]? = some c ∧ y = nV c := by
    rw [List.getElem?_map] at hy
    cases e : b[i]? with
    | none => rw [e] at hy; cases hy
    | some n => rw [e] at hy; exact ⟨n, rfl, (Option.some.inj hy).symm⟩
   obtain ⟨hil, hc2⟩ := List.getElem?_eq_some_iff.mp hc
   have ed : b.drop i = c :: b.drop (i + 1) := by rw [List.drop_eq_getElem_cons hil, hc2]
   rw [ed, partA] at he
   refine ⟨_, rfl, _, rfl, c, mark, rfl, rfl, _, rfl, ite2 (fun h => ?_) (fun h => ?_)⟩
   ·have h := of_decide_eq_true h
    rw [if_pos h] at he
    refine ⟨_, rfl, .inl ⟨rfl, _, SqL.of hz⟩, _, rfl, D, _, _, rfl, rfl, hz, small' (by rw [List.length_map]; omega), (by show 0 ≤ sizeLine; decide), fun pb npb => ?_⟩
    have e1 : upd H1 D (.lst (zr z ++ [.ref pa])) D = some (.lst (zr z ++ [.ref pa])) := upd_same
    have s3 : Same H (upd H1 D (.lst (zr z ++ [.ref pa]))) := put_new s2 hD
    have hbd : pb ≠ D := ne_new (Same.refl _) e1 npb
    have p1 : Ls (upd H1 D (.lst (zr z ++ [.ref pa]))) pa p := by
     unfold Ls
     rw [upd_ne hpd]
     exact hp
    have hba : pb ≠ pa := ne_new (Same.refl _) p1 npb
    refine ⟨z ++ [(pa, p)], pb, [], _, rfl, s3.trans (up npb), s3.free npb, hbd, ?_, upd_same, ?_, Nat.zero_le _, ?_, ?_⟩
    ·rw [upd_ne (fun e => hbd e.symm), e1, zr_snoc]
    ·rw [List.length_append]
     show _ + 1 ≤ _
     omega
    ·intro H' o' x hx
     rcases List.mem_append.mp hx with hx | hx
     ·refine hat H' (fun b' u n1 n2 e => o' b' u n1 (fun e2 => ?_) ?_) x hx
      ·rw [upd_ne hbd] at npb
       rw [e2, npb] at e
       cases e
      ·rw [upd_ne (fun e2 => by rw [e2] at e; rw [upd_ne hbd, e] at npb; cases npb), upd_ne n1]
       exact e
     ·rw [List.mem_singleton.mp hx]
      refine o' pa _ hpd (fun e => hba e.symm) ?_
      rw [upd_ne (fun e => hba e.symm)]
      exact p1
    ·rw [← he, zb_snoc, List.append_assoc]
     rfl
   ·have h : ¬ c = mark := fun z => h (decide_eq_true z)
    rw [if_neg h] at he
    refine ⟨_, rfl, .inl ⟨rfl, _, SqL.of hp⟩, _, rfl, pa, _, _, rfl, rfl, hp, small' (by rw [nb_length]; omega), ?_⟩
    refine ⟨z, pa, p ++ [c], _, rfl, put_new s2 npa, npa, hpd, ?_, ?_, by omega, ?_, ?_, he⟩
    ·rw [upd_ne (fun e => hpd e.symm)]
     exact hz
    ·unfold Ls
     rw [upd_same, nb_append]
     rfl
    ·rw [List.length_append]
     show _ + 1 ≤ _
     omega
    ·intro H' o' x hx
     exact hat H' (fun b' u n1 n2 e => o' b' u n1 n2 (by rw [upd_ne n2]; exact e)) x hx
  ·rintro σ H1 ⟨z, pa, p, o4, rfl, s2, npa, hpd, hz, hp, hzl, hpl, hat, he⟩
   rw [nb_length] at hzl
   rw [nb_length, List.drop_length] at he
   refine ⟨_, rfl, .inl ⟨rfl, _, SqL.of hz⟩, _, rfl, D, _, _, rfl, rfl, hz, small' (by rw [List.length_map]; omega), _, rfl, ?_⟩
   refine q D (z ++ [(pa, p)]) _ hD (put_new s2 hD) ?_ ?_ ?_
   ·rw [upd_same, zr_snoc]
   ·intro x hx
    rcases List.mem_append.mp hx with hx | hx
    ·exact hat _ (fun b' u n1 n2 e => by rw [upd_ne n1]; exact e) x hx
    ·rw [List.mem_singleton.mp hx]
     unfold Ls
     rw [upd_ne hpd]
     exact hp
   ·rw [← he, zb_snoc]
    rfl
end
end Dw
namespace Dw
open PySem L2 Sn37
theorem hu1 {k : Nat} {A : Around} (r : Room k A) : A.units + 1 < cLine := by have := r.units; omega
def limV (l : Option Nat) : V := match l with | none => .non | some n => nV n
def UsAt (t : Adr) (H : Hp) (x : Addr) (u : User) : Prop := ∃ dx lp lt, H x = some (.ins t.cUser dx (fsUser (.ref lp) (limV u.limit) (.ref lt))) ∧ Ls H lp u.password ∧ Ls H lt (attrBytes u.told)
theorem UsAt.same {t : Adr} {H H' : Hp} {x : Addr} {u : User} (h : UsAt t H x u) (s : Same H H') : UsAt t H' x u := let ⟨dx, lp, lt, h1, h2, h3⟩ := h; ⟨dx, lp, lt, s _ _ h1, s _ _ h2, s _ _ h3⟩
structure UsOk (u : User) : Prop where
 pl : u.password.length ≤ 128
 pb : By u.password
 tl : (attrBytes u.told).length ≤ 9000
 tb : By (attrBytes u.told)
def SeAt (t : Adr) (H : Hp) (x : Addr) (s : Session) : Prop := ∃ dx lu ln, H x = some (.ins t.cSession dx (fsSession (nV s.client) (.ref lu) (.ref ln))) ∧ Ls H lu s.user ∧ Ls H ln s.name
theorem SeAt.same {t : Adr} {H H' : Hp} {x : Addr} {u : Session} (h : SeAt t H x u) (s : Same H H') : SeAt t H' x u := let ⟨dx, lp, lt, h1, h2, h3⟩ := h; ⟨dx, lp, lt, s _ _ h1, s _ _ h2, s _ _ h3⟩
abbrev ZS := List (Addr × Session)
abbrev ZU := List (Addr × User)
abbrev nK (l : Bytes) : List Key := l.map fun n : Nat => (.inl (n : Int) : Key)
abbrev kvU (z : ZU) : List (List Key × V) := z.map fun q => (nK q.2.name, V.ref q.1)
theorem nK_inj {a b : Bytes} (h : nK a = nK b) : a = b := by
 have : ∀ {a b : Nat}, (Sum.inl (a : Int) : Key) = Sum.inl (b : Int) → a = b := fun h => by
  have := Sum.inl.inj h
  omega
 induction a generalizing b with
 | nil =>
  cases b with
  | nil => rfl
  | cons d r => cases h
 | cons c r ih =>
  cases b with
  | nil => cases h
  | cons d r2 =>
   have h1 := (List.cons.inj h).1
   have h2 := (List.cons.inj h).2
   rw [this h1, ih h2]
theorem beq_dec (a b : List Nat) : (a == b) = decide (a = b) := by
 by_cases h : a = b <;> simp [h]
theorem emp_of {α β : Type} {z : List α} {f : α → β} (h : ¬ (!(z.map f).isEmpty) = true) : z = [] := by
 cases z with
 | nil => rfl
 | cons a r => exact absurd rfl h
theorem valV_u (z : ZU) (n : Bytes) : valV (kvU z) (nK n) = (z.find? fun q => q.2.name == n).map fun q => V.ref q.1 := by
 unfold valV kvU
 rw [List.find?_map]
 have e : ((fun kv : List Key × V => decide (kv.1 = nK n)) ∘ fun q : Addr × User => (nK q.2.name, V.ref q.1)) = fun q => q.2.name == n := by
  funext q
  rw [beq_dec]
  show decide (nK q.2.name = nK n) = decide (q.2.name = n)
  exact decide_eq_decide.mpr ⟨nK_inj, fun h => by rw [h]⟩
 rw [e, Option.map_map]
 rfl
theorem find_u (z : ZU) (n : Bytes) : (z.map (·.2)).find? (fun u => u.name == n) = (z.find? fun q => q.2.name == n).map (·.2) := by
 rw [List.find?_map]
 rfl
section
variable {P : Program} {w : World} {K : PySem.W.Frag} {mg : Str → Option Value} {base : Heap} {t : Adr}
theorem PkAt.byk {t : Adr} {H : Hp} {x : Addr} {p : Packet} {z : Z3} (h : PkAt t H x p z) {k : Nat} {b : Bytes} (hb : b ∈ p.all k) : By b ∧ b.length ≤ 4096 ∧ 1 ≤ b.length := by
 rw [h.all] at hb
 obtain ⟨q, hq, rfl⟩ := List.mem_map.mp hb
 have hq := (List.mem_filter.mp hq).1
 refine ⟨h.by_ hq, h.len_ hq, ?_⟩
 have : ∀ {st : Nat} {m : List At3}, Placed st m → ∀ a ∈ m, 1 ≤ a.2.2.length := by
  intro st m pm
  induction pm with
  | nil => exact fun a ha => absurd ha List.not_mem_nil
  | cons h1 h2 ih =>
   intro a ha
   rcases List.mem_cons.mp ha with rfl | ha
   ·first | exact h1 | omega
   ·exact ih a ha
 exact this h.ok.pl q.2 (List.mem_map_of_mem hq)
theorem PkAt.many {t : Adr} {H : Hp} {x : Addr} {p : Packet} {z : Z3} (h : PkAt t H x p z) {k : Nat} (hn : (ofK z k).length ≠ 1) : ∀ b, p.all k ≠ [b] := by
 intro b e
 rw [h.all] at e
 have := congrArg List.length e
 rw [List.length_map] at this
 exact hn this
theorem PkAt.sole {t : Adr} {H : Hp} {x : Addr} {p : Packet} {z : Z3} (h : PkAt t H x p z) {k : Nat} {q : Addr × At3} (hq : ofK z k = [q]) : p.all k = [q.2.2.2] := by
 rw [h.all, hq]
 rfl
theorem PkAt.empty {t : Adr} {H : Hp} {x : Addr} {p : Packet} {z : Z3} (h : PkAt t H x p z) (k : Nat) : ((ofK z k) = []) ↔ p.all k = [] := by
 rw [h.all]
 simp
def spHashed (t : Adr) : Sp := fun vs H Q E => ∃ x p z, vs = [.ref x] ∧ PkAt t H x p z ∧ (∀ b, p.all 3 = [b] → b.length = 17 → ∀ lv H', Same H H' → Ls H' lv b → Q (.ref lv) H') ∧ ((∀ b, p.all 3 = [b] → b.length ≠ 17) → NoA t H E)
theorem sc_hashed : FnScope ["packet", "hashed"] ["packet"] (defScope (top 47)) := ⟨rfl, rfl, rfl, by decide +kernel, rfl, by decide +kernel, by decide +kernel⟩
theorem ok_read_hashed (T : Txt K mg t) : FnOk P w K mg base (CXF P w) 3 t.read_hashed.a t.read_hashed.fd ["packet"] (spHashed t) := by
 refine T.access.read_hashed.fn.okX sc_hashed (fun vs H Q E h => ?_) (fun cdv A outer s H vs Q E hr h => ?_)
 ·obtain ⟨x, p, z, rfl, _⟩ := h
  rfl
 ·obtain ⟨x, p, z, rfl, pk, q1, q2⟩ := h
  obtain ⟨dx, ld, la, lm, h1, h2, h3, h4⟩ := pk.ex
  have ka := T.packets.cAttribute
  refine ⟨_, (pss_cons (ps_set (i := 1) sc_hashed.nd rfl (Or.inl rfl) (fldK K (methX (pv 0) T.packets.cPacket.cl T.packets.packet_only (ok_packet_only T) hr passF (pa_cons (gN T "HASHED_PASSWORD" 3) pa_nil)) rfl))
   (pss_cons (ps_if (pt_cmpR o_ne (pLen T (pv 1)) (gN T "HASHED_SIZE" 17) (nomark _))
   (pss_one (ps_raise T.packets.cNoAnswer hr rfl))
   pss_nil)
   (pss_one (ps_ret (pv 1))))), ?_⟩
  refine ⟨_, rfl, x, dx, _, rfl, h1, fsPacket_no "only", x, p, z, 3, rfl, pk, fun y hy H1 s1 => ?_, fun hn => ?_⟩
  ·have hm : y ∈ ofK z 3 := by rw [hy]; exact List.mem_singleton.mpr rfl
   obtain ⟨⟨dy, lv, a1, a2⟩, ek⟩ := (pk.same s1).in_ hm
   have all := pk.sole hy
   refine ⟨y.1, _, dy, _, _, rfl, a1, ka.cl, na ka _, fsAttribute_value, _, rfl, lv, _, rfl, SqL.of a2, _, 17, rfl, rfl, _, rfl, ite2 (fun c => ?_) (fun c => ?_)⟩
   ·have c : ¬ y.2.2.2.length = 17 := by simpa using c
    exact q2 (fun b hb => by rw [all] at hb; rw [← (List.cons.inj hb).1]; exact c) H1 s1
   ·have c : y.2.2.2.length = 17 := by simpa using c
    exact ⟨_, rfl, q1 _ all c lv H1 s1 a2⟩
  ·exact q2 (fun b hb => absurd hb (pk.many hn b))
def chal (p : Packet) : Option Bytes := match p.all 60 with | [] => some p.auth | [c] => some c | _ => none
theorem chal_none {p : Packet} (h1 : p.all 60 ≠ []) (h2 : ∀ b, p.all 60 ≠ [b]) : chal p = none := by
 unfold chal
 split
 ·rename_i e; exact absurd e h1
 ·rename_i c e; exact absurd e (h2 c)
 ·rfl
def spChall (t : Adr) : Sp := fun vs H Q E => ∃ x p z, vs = [.ref x] ∧ PkAt t H x p z ∧ (∀ b, chal p = some b → ∀ lv H', Same H H' → Ls H' lv b → Q (.ref lv) H') ∧ (chal p = none → NoA t H E)
theorem sc_chall : FnScope ["packet"] ["packet"] (defScope (top 48)) := ⟨rfl, rfl, rfl, by decide +kernel, rfl, by decide +kernel, by decide +kernel⟩
theorem ok_read_challenge (T : Txt K mg t) : FnOk P w K mg base (CXF P w) 3 t.read_challenge.a t.read_challenge.fd ["packet"] (spChall t) := by
 refine T.access.read_challenge.fn.okX sc_chall (fun vs H Q E h => ?_) (fun cdv A outer s H vs Q E hr h => ?_)
 ·obtain ⟨x, p, z, rfl, _⟩ := h
  rfl
 ·obtain ⟨x, p, z, rfl, pk, q1, q3⟩ := h
  obtain ⟨dx, ld, la, lm, h1, h2, h3, h4⟩ := pk.ex
  have ka := T.packets.cAttribute
  have kp := T.packets.cPacket
  refine ⟨_, (pss_cons (ps_if (pt_truth (methN (pv 0) T.packets.cPacket.cl T.packets.packet_all_of (ok_packet_all_of T) hr (pa_cons (gN T "CHALLENGE" 60) pa_nil)) (fun _ => rfl))
   (pss_one (ps_ret (fldK K (methX (pv 0) T.packets.cPacket.cl T.packets.packet_only (ok_packet_only T) hr passF (pa_cons (gN T "CHALLENGE" 60) pa_nil)) rfl)))
   pss_nil)
   (pss_one (ps_ret (fldK K (pv 0) rfl)))), ?_⟩
  refine ⟨_, rfl, x, dx, _, rfl, h1, fsPacket_no "all_of", x, p, z, 60, rfl, pk, fun a H1 n1 s1 e1 => ?_⟩
  refine ⟨_, .inl ⟨_, SqL.of e1, rfl⟩, ite2 (fun c => ?_) (fun c => ?_)⟩
  ·have c : ofK z 60 ≠ [] := by simpa using c
   refine ⟨_, rfl, x, dx, _, rfl, s1 _ _ h1, fsPacket_no "only", x, p, z, 60, rfl, pk.same s1, fun y hy H2 s2 => ?_, fun hn => ?_⟩
   ·have hm : y ∈ ofK z 60 := by rw [hy]; exact List.mem_singleton.mpr rfl
    obtain ⟨⟨dy, lv, a1, a2⟩, ek⟩ := (pk.same (s1.trans s2)).in_ hm
    exact ⟨y.1, _, dy, _, _, rfl, a1, ka.cl, na ka _, fsAttribute_value, q1 _ (by unfold chal; rw [pk.sole hy]) lv H2 (s1.trans s2) a2⟩
   ·exact fun H' s' => q3 (chal_none (fun e => c ((pk.empty 60).mpr e)) (pk.many hn)) H' (s1.trans s')
  ·have c : ofK z 60 = [] := emp_of c
   exact ⟨_, rfl, x, _, dx, _, _, rfl, s1 _ _ h1, kp.cl, na kp _, fsPacket_authenticator, q1 _ (by unfold chal; rw [(pk.empty 60).mp c]) la H1 s1 (s1 _ _ h3)⟩
def spLimit (t : Adr) : Sp := fun vs H Q _ => ∃ x ln ls u, ∃ (n : List Nat) (zs : ZS), vs = [.ref x, .ref ln, .ref ls] ∧ UsAt t H x u ∧ Ls H ln n ∧ H ls = some (.lst (zs.map fun q => V.ref q.1)) ∧ (∀ q ∈ zs, SeAt t H q.1 q.2) ∧ zs.length ≤ 64 ∧
 ∀ H', Same H H' → Q (.bl (u.limit.any fun k => decide (k ≤ ((zs.map (·.2)).filter fun x => x.user == n).length))) H'
theorem sc_limit : FnScope ["user", "name", "sessions", "session"] ["user", "name", "sessions"] (defScope (top 50)) := ⟨rfl, rfl, rfl, by decide +kernel, rfl, by decide +kernel, by decide +kernel⟩
theorem ok_is_limit_reached (T : Txt K mg t) : FnOk P w K mg base CX0 1 t.is_limit_reached.a t.is_limit_reached.fd ["user", "name", "sessions"] (spLimit t) := by
 refine T.access.is_limit_reached.fn.ok sc_limit (fun vs H Q E h => ?_) (fun cdv A outer s H vs Q E hr h => ?_)
 ·obtain ⟨x, ln, ls, u, n, zs, rfl, _⟩ := h
  rfl
 ·obtain ⟨x, ln, ls, u, n, zs, rfl, ⟨dx, lp, lt, h1, h2, h3⟩, hn, hz, hs, hl, q⟩ := h
  have ku := T.settings.cUser
  have kse := T.accounting.cSession
  refine ⟨_, (pss_cons (ps_if (pt_cmpR op_isN (fldK K (pv 0) rfl) pe_non (nomark _))
   (pss_one (ps_ret pe_bl))
   pss_nil)
   (pss_one (ps_ret (pe_cmpR op_ge (pLenV T (pe_lc (own := [("session", 3)]) rfl sc_limit.nd (pi_list (pv 2)) (blkOk_by (by kernel_rfl)) (fun _ _ _ _ _ => (pg_name (i := 3) sc_limit.nd rfl (Or.inl rfl))) (fun _ _ _ _ _ => (pts_one (pt_cmpR (o_eqN K hr.units) (fldK K (pv 3) rfl) (pv 1) (nomark _)))) (fun _ _ _ _ _ => (pv 3)))) (fldK K (pv 0) rfl) (nomark _))))), ?_⟩
  refine ⟨_, rfl, x, _, dx, _, _, rfl, h1, ku.cl, na ku _, fsUser_limit, rfl, _, rfl, ite2 (fun c => ?_) (fun c => ?_)⟩
  ·have c := of_decide_eq_true c
   have e : u.limit = none := by
    cases e : u.limit with
    | none => rfl
    | some k => rw [e] at c; cases c
   rw [e] at q
   exact q H (Same.refl H)
  ·obtain ⟨k, hk⟩ : ∃ k, u.limit = some k := by
    cases e : u.limit with
    | none => rw [e] at c; exact absurd rfl c
    | some k => exact ⟨k, rfl⟩
   rw [hk] at q h1
   refine ⟨_, rfl, ls, rfl, ⟨_, SqL.of hz⟩, fun D hD => ?_⟩
   refine lc_fmz (K := K) (z := zs) (r := fun q => V.ref q.1) (fun q => q.2.user == n) (fun q => V.ref q.1) (SqL.of hz) hD (by omega) (fun y H' Rn Ry hy sH hq => ?_) fun H' s' l' => ?_
   ·obtain ⟨dy, lu, la, a1, a2, a3⟩ := (hs y hy).same sH
    refine ⟨rfl, _, rfl, y.1, _, dy, _, _, rfl, a1, kse.cl, na kse _, fsSession_user_name, _, rfl, lu, ln, _, n, rfl, rfl, SqL.of a2, SqL.of (sH _ _ hn), _, rfl, ?_⟩
    rw [beq_dec] at hq
    exact ite_b hq (fun h => ⟨_, rfl, h⟩) (fun h => h)
   ·refine ⟨D, _, rfl, .inl (SqL.of l'), _, rfl, x, _, dx, _, _, rfl, s' _ _ h1, ku.cl, na ku _, fsUser_limit, _, _, rfl, rfl, ?_⟩
    have e : ((zs.map (·.2)).filter fun x => x.user == n).length = ((zs.filter fun q => q.2.user == n).map fun q => V.ref q.1).length := by
     rw [List.filter_map, List.length_map, List.length_map]
     rfl
    have q := q H' s'
    rw [e] at q
    refine cast ?_ q
    congr 2
    exact decide_eq_decide.mpr ⟨fun h => by omega, fun h => by omega⟩
end
end Dw
namespace Dw
open PySem L2 Sn37
theorem ix_lk {X : Cx} (K : PySem.W.Frag) (h : X.K = K := by rfl) : IxR X (rIxL K) := by
 subst h
 exact ix_list
section
variable {P : Program} {w : World} {K : PySem.W.Frag} {mg : Str → Option Value} {base : Heap} {t : Adr}
theorem mix_length (a b : Bytes) : (mix a b).length = min a.length b.length := by
 unfold mix
 rw [List.length_map, List.length_zip]
def badPass (b : Bytes) : Prop := b.length < 16 ∨ 128 < b.length ∨ b.length % 16 ≠ 0
def spPass (t : Adr) : Sp := fun vs H Q E => ∃ x ls p z, ∃ secret : List Nat, vs = [.ref x, .ref ls] ∧ PkAt t H x p z ∧ Ls H ls secret ∧ secret.length ≤ 64 ∧ By secret ∧
 (∀ b, p.all 2 = [b] → ¬ badPass b → NewL H (bare (shown secret 8 p.auth b)) Q) ∧ ((∀ b, p.all 2 = [b] → badPass b) → NoA t H E)
theorem sc_pass : FnScope ["packet", "secret", "hidden", "password", "before", "place", "block", "byte", "mask"] ["packet", "secret"] (defScope (top 49)) := ⟨rfl, rfl, rfl, by decide +kernel, rfl, by decide +kernel, by decide +kernel⟩
theorem ok_read_password (T : Txt K mg t) : FnOk P w K mg base (CXF P w) 4 t.read_password.a t.read_password.fd ["packet", "secret"] (spPass t) := by
 refine T.access.read_password.fn.okX sc_pass (fun vs H Q E h => ?_) (fun cdv A outer s H vs Q E hr h => ?_)
 ·obtain ⟨x, ls, p, z, secret, rfl, _⟩ := h
  rfl
 ·obtain ⟨x, ls, p, z, secret, rfl, pk, hs, hsl, hsb, q1, q2⟩ := h
  obtain ⟨dx, ld, la, lm, h1, h2, h3, h4⟩ := pk.ex
  have ka := T.packets.cAttribute
  have kp := T.packets.cPacket
  refine ⟨_, (pss_cons (ps_set (i := 2) sc_pass.nd rfl (Or.inl rfl) (fldK K (methX (pv 0) T.packets.cPacket.cl T.packets.packet_only (ok_packet_only T) hr passF (pa_cons (gN T "PASSWORD" 2) pa_nil)) rfl))
   (pss_cons (ps_if ((pw_or (pt_cmpR o_gt (pLen T (pv 2)) (gN T "MOST_HIDDEN" 128) (nomark _)) (pw_or1 (pt_cmpR o_ne (pe_op o_mod (pLen T (pv 2)) (gN T "BLOCK_SIZE" 16)) pe_int (nomark _))))).pt
   (pss_one (ps_raise T.packets.cNoAnswer hr rfl))
   pss_nil)
   (pss_cons (ps_set (i := 3) sc_pass.nd rfl (Or.inl rfl) (pe_lst pa_nil))
   (pss_cons (ps_set (i := 4) sc_pass.nd rfl (Or.inl rfl) (fldK K (pv 0) rfl))
   (pss_cons (ps_for own_pass rfl (pi_range3 rfl (bl_in T "range") (pa_cons pe_int (pa_cons (pLen T (pv 2)) (pa_cons (gN T "BLOCK_SIZE" 16) pa_nil)))) (pg_name (i := 5) sc_pass.nd rfl (Or.inl rfl))
   (pss_cons (ps_set (i := 6) sc_pass.nd rfl (Or.inl rfl) (pe_slice (sl_n K) (pv 2) (po_some (pv 5)) (po_some (pe_op o_add (pv 5) (gN T "BLOCK_SIZE" 16)))))
    (pss_cons (ps_expr (pe_bm PySem.F.plainAttrs_list PySem.F.slot_list_extend PySem.F.type_list_extend mt_extend (pv 3) (pa_cons (pe_lc (own := [("byte", 7), ("mask", 8)]) rfl sc_pass.nd (pi_zip rfl (bl_in T "zip") (pa_cons (pv 6) (pa_cons (callN (ok_md5 T) T.digest.md5 hr (pa_cons (pe_op o_cat (pv 1) (pv 4)) pa_nil)) pa_nil))) (blkOk_by (by kernel_rfl)) (fun _ _ _ _ _ => (pgTupK (n := 2) K rfl (pgs_cons (pg_name (i := 7) sc_pass.nd rfl (Or.inl rfl)) (pgs_cons (pg_name (i := 8) sc_pass.nd rfl (Or.inl rfl)) pgs_nil)))) (fun _ _ _ _ _ => pts_nil) (fun _ _ _ _ _ => (pe_op o_xor (pv 7) (pv 8)))) pa_nil)))
    (pss_one (ps_set (i := 4) sc_pass.nd rfl (Or.inl rfl) (pv 6))))))
   (pss_cons (ps_while own_pass ((pw_and (pt_truth (pv 3) (fun _ => rfl)) (pw_and1 (pt_cmpR o_eq (pe_ix (ix_lk K) (pv 3) (pe_un un_neg pe_int) (fun _ _ => rfl)) pe_int (nomark _))))).pt
   (pss_one (ps_expr (pe_bm0 PySem.F.plainAttrs_list PySem.F.slot_list_pop PySem.F.type_list_pop mt_pop (pv 3)))))
   (pss_one (ps_ret (pv 3))))))))), ?_⟩
  refine ⟨_, rfl, x, dx, _, rfl, h1, fsPacket_no "only", x, p, z, 2, rfl, pk, fun y hy H1 s1 => ?_, fun hn => ?_⟩
  ·have hm : y ∈ ofK z 2 := by rw [hy]; exact List.mem_singleton.mpr rfl
   obtain ⟨⟨dy, lv, a1, a2⟩, ek⟩ := (pk.same s1).in_ hm
   have all := pk.sole hy
   generalize y.2.2.2 = b at all a2
   have hbk := pk.byk (k := 2) (b := b) (by rw [all]; exact List.mem_singleton.mpr rfl)
   have bad : badPass b → NoA t H E := fun h => q2 (fun b' e => by rw [all] at e; rw [← (List.cons.inj e).1]; exact h)
   refine ⟨y.1, _, dy, _, _, rfl, a1, ka.cl, na ka _, fsAttribute_value, _, rfl, lv, b, rfl, SqL.of a2, b.length, 128, rfl, rfl, _, rfl, ite2 (fun c => bad (.inr (.inl (of_decide_eq_true c))) H1 s1) (fun c => ?_)⟩
   have c : ¬ 128 < b.length := fun z => c (decide_eq_true z)
   refine ⟨_, rfl, lv, b, rfl, SqL.of a2, b.length, 16, rfl, rfl, (by show (0 : Nat) < 16; decide), _, 0, rfl, rfl, _, rfl, ite2 (fun c2 => ?_) (fun c2 => ?_)⟩
   ·have c2 : ¬ b.length % 16 = 0 := by simpa using c2
    exact bad (.inr (.inr c2)) H1 s1
   have c2 : b.length % 16 = 0 := by simpa using c2
   have q1 := q1 b all (fun h => by unfold badPass at h; omega)
   refine ⟨(by show 0 ≤ sizeLine; decide), fun D hD => ?_⟩
   have sD : Same H1 (upd H1 D (.lst [])) := up hD
   have s2 := s1.trans sD
   refine ⟨_, rfl, x, _, dx, _, _, rfl, s2 _ _ h1, kp.cl, na kp _, fsPacket_authenticator, ?_⟩
   obtain ⟨nt, hnt⟩ : ∃ nt, b.length = 16 * nt := ⟨b.length / 16, by omega⟩
   have hnt8 : nt ≤ 8 := by omega
   refine ⟨_, rfl, lv, b, rfl, SqL.of (sD _ _ a2), 0, _, 16, nt, rfl, ?_, ?_⟩
   ·rw [hnt]
    exact rg16 nt (by omega)
   refine for_rangeC (n := nt) (fun i σ H2 => ∃ lb pre prev o5 o6, σ = [some (.ref x), some (.ref ls), some (.ref lv), some (.ref D), some (.ref lb), o5, o6, none, none] ∧ Same H1 H2 ∧ Ls H2 D pre ∧ Ls H2 lb prev ∧ lb ≠ D ∧ By prev ∧ prev.length = 16 ∧ pre.length ≤ 16 * i ∧
    pre ++ shown secret (8 - i) prev (b.drop (16 * i)) = shown secret 8 p.auth b) ?_ ?_ ?_
   ·refine ⟨la, [], p.auth, _, _, rfl, sD, upd_same, s2 _ _ h3, ne_of_none (s1 _ _ h3) hD, fun c hc => ?_, auth_length pk.ok, Nat.le_refl _, rfl⟩
    rw [pk.ok.au] at hc
    exact pk.ok.by_ c (List.mem_of_mem_drop (List.mem_of_mem_take hc))
   ·rintro i σ H2 hi ⟨lb, pre, prev, o5, o6, rfl, t2, hp, hb, hbD, hpb, hpl, hprl, he⟩
    have e' : V.int (0 + (i : Nat) * 16) = nV (16 * i) := by show V.int _ = V.int _; congr 1; omega
    rw [e']
    have hl16 : ((b.drop (16 * i)).take 16).length = 16 := by rw [List.length_take, List.length_drop]; omega
    have hne : b.drop (16 * i) ≠ [] := fun e => by
     have := congrArg List.length e
     rw [List.length_drop, List.length_nil] at this
     omega
    rw [show 8 - i = (8 - (i + 1)) + 1 by omega, shown_more hne, List.drop_drop] at he
    refine ⟨_, rfl, _, rfl, _, rfl, _, rfl, 16 * i, 16, rfl, rfl, _, rfl, lv, b, rfl, SqL.of (t2 _ _ a2), fun p2 H3 n3 s3 l3 => ?_⟩
    rw [cutN_mid, show 16 * i + 16 - 16 * i = 16 by omega] at l3
    have hp3 := s3 _ _ hp
    have hb3 := s3 _ _ hb
    have hbkb : By ((b.drop (16 * i)).take 16) := fun c hc => hbk.1 c (List.mem_of_mem_drop (List.mem_of_mem_take hc))
    generalize (b.drop (16 * i)).take 16 = blk at he l3 hl16 hbkb
    refine ⟨_, rfl, .inl ⟨rfl, _, SqL.of hp3⟩, _, rfl, _, rfl, _, rfl, ls, lb, secret, prev, rfl, rfl, s3 _ _ (t2 _ _ (s1 _ _ hs)), hb3, (by rw [hpl]; omega), fun p4 H4 n4 s4 l4 => ?_⟩
    refine ⟨p4, _, rfl, l4, (by rw [List.length_append, hpl]; omega), by_app hsb hpb, fun p5 H5 n5 s5 l5 => ?_⟩
    have l35 := s5 _ _ (s4 _ _ l3)
    have hml : (md5 (secret ++ prev)).length = 16 := md5_length _
    generalize md5 (secret ++ prev) = msk at he l5 hml
    refine ⟨p2, p5, _, _, rfl, SqL.of l35, SqL.of l5, fun DD hDD => ?_⟩
    refine lc_gen (n := 16) (fun k G => Same H5 G ∧ Ls G DD ((mix blk msk).take k)) ⟨up hDD, upd_same⟩ ?_ ?_ ?_ ?_
    ·rintro k G hk ⟨g1, g2⟩
     have e1 : (nb blk)[k]? = some _ := List.getElem?_eq_getElem (show k < (nb blk).length by rw [nb_length]; omega)
     have e2 : (nb msk)[k]? = some _ := List.getElem?_eq_getElem (show k < (nb msk).length by rw [nb_length]; omega)
     exact ⟨_, _, _, _, SqL.of (g1 _ _ l35), SqL.of (g1 _ _ l5), e1, e2⟩
    ·rintro G ⟨g1, g2⟩
     exact ⟨_, _, SqL.of (g1 _ _ l35), SqL.of (g1 _ _ l5), .inl (by rw [nb_length]; omega)⟩
    ·rintro k G v G' hk ⟨g1, g2⟩ ⟨Tt, x1, y1, rfl, nT, rfl, k1, k2⟩
     have k1 := k1 _ (SqL.of (g1 _ _ l35))
     have k2 := k2 _ (SqL.of (g1 _ _ l5))
     rw [List.getElem?_map, List.getElem?_eq_getElem (show k < blk.length by omega)] at k1
     rw [List.getElem?_map, List.getElem?_eq_getElem (show k < msk.length by omega)] at k2
     have ex := (Option.some.inj k1).symm
     have ey := (Option.some.inj k2).symm
     subst ex
     subst ey
     have em : (mix blk msk)[k]? = some (blk[k] ^^^ msk[k]) := by
      unfold mix
      have ez : (blk.zip msk)[k]? = some (blk[k], msk[k]) := List.getElem?_zip_eq_some.mpr ⟨List.getElem?_eq_getElem (show k < blk.length by omega), List.getElem?_eq_getElem (show k < msk.length by omega)⟩
      rw [List.getElem?_map, ez]
      rfl
     have sT : Same G (upd G Tt (.tup [nV blk[k], nV msk[k]])) := up nT
     refine ⟨Tt, _, rfl, SqT.of upd_same, rfl, _, _, rfl, _, _, rfl, rfl, rfl, _, rfl, _, rfl, _, _, rfl, rfl, _, sT _ _ g2, ?_, put_new (g1.trans sT) hDD, ?_⟩
     ·rw [nb_length, List.length_take]
      exact small' (by omega)
     ·unfold Ls
      rw [upd_same, List.take_add_one, em, nb_append]
      rfl
    ·rintro G ⟨g1, g2⟩
     rw [List.take_of_length_le (by rw [mix_length]; omega)] at g2
     have s35 := (s4.trans s5).trans g1
     have hpG := s35 _ _ hp3
     refine ⟨D, DD, _, _, rfl, rfl, hpG, g2, ?_, ?_⟩
     ·rw [nb_length, nb_length, mix_length]
      exact Nat.le_trans (show _ ≤ 1000 by omega) (by decide)
     have p2D : p2 ≠ D := ne_new (Same.refl _) hp n3
     refine ⟨_, rfl, p2, pre ++ mix blk msk, blk, _, _, rfl, put_new ((t2.trans s3).trans s35) hD, ?_, ?_, p2D, hbkb, hl16, ?_, ?_⟩
     ·unfold Ls
      rw [upd_same, nb_append]
     ·unfold Ls
      rw [upd_ne p2D]
      exact s35 _ _ l3
     ·rw [List.length_append, mix_length]
      omega
     ·rw [← he, List.append_assoc, show 16 * (i + 1) = 16 * i + 16 by omega]
   ·rintro σ H2 ⟨lb, pre, prev, o5, o6, rfl, t2, hp, hb, hbD, hpb, hpl, hprl, he⟩
    rw [← hnt, List.drop_length, shown_nil, List.append_nil] at he
    have hcl : pre.length ≤ 128 := by omega
    refine while_by (fun σ G => ∃ cur, σ = [some (.ref x), some (.ref ls), some (.ref lv), some (.ref D), some (.ref lb), o5, o6, none, none] ∧ Same H1 G ∧ Ls G D cur ∧ bare cur = bare pre) (fun σ G => match G D with | some (.lst xs) => xs.length | _ => 0) ⟨pre, rfl, t2, hp, rfl⟩ ?_ ?_
    ·rintro σ G ⟨cur, rfl, g1, g2, g3⟩
     refine ⟨_, rfl, _, .inl ⟨_, SqL.of g2, rfl⟩, ?_⟩
     rcases List.eq_nil_or_concat cur with rfl | ⟨l, c0, rfl⟩
     ·refine ite2 (fun z => absurd z (by decide)) (fun _ => ?_)
      refine ite2 (fun z => absurd z (by decide)) (fun _ => ?_)
      refine ⟨_, rfl, q1 D G (s1.free hD) (s1.trans g1) ?_⟩
      rw [← he, ← g3]
      exact g2
     ·rw [List.concat_eq_append] at g2 g3 ⊢
      refine ite2 (fun _ => ?_) (fun z => absurd (by rw [nb_append]; cases nb l <;> rfl) z)
      refine ⟨_, rfl, _, rfl, D, _, -1, nV c0, rfl, rfl, SqL.of g2, ?_, c0, 0, rfl, rfl, _, rfl, ite2 (fun h => ?_) (fun h => ?_)⟩
      ·rw [nb_append]
       exact atI_last _ _
      ·have h : c0 = 0 := by simpa using h
       subst h
       have hd : (nb (l ++ [0])).dropLast = nb l := by
        rw [nb_append]
        exact List.dropLast_concat
       refine ⟨_, rfl, .inl ⟨rfl, _, SqL.of g2⟩, D, _, nV 0, rfl, rfl, g2, ?_, ⟨l, rfl, put_new g1 hD, ?_, ?_⟩, ?_⟩
       ·rw [nb_append]
        simp
       ·unfold Ls
        rw [upd_same, hd]
       ·rw [← g3, bare_snoc0]
       ·have g2' : G D = some (.lst (nb (l ++ [0]))) := g2
        rw [upd_same, g2', hd]
        show (nb l).length < (nb (l ++ [0])).length
        rw [nb_length, nb_length, List.length_append]
        show _ < _ + 1
        omega
      ·have h : c0 ≠ 0 := by simpa using h
       refine ⟨_, rfl, q1 D G (s1.free hD) (s1.trans g1) ?_⟩
       rw [← he, ← g3, bare_snoc _ h]
       exact g2
    ·rintro σ G Q1 Q2 hq ⟨v, e, k, tv, h⟩
     refine ⟨v, e, k, tv, ?_⟩
     cases k with
     | false => exact hq _ _ h
     | true =>
      obtain ⟨v1, e1, i1, e2, p1, x1, i2, z1, e3, e4, e5, e6, i3, i4, e7, e8, b1, e9, h⟩ := h
      exact ⟨v1, e1, i1, e2, p1, x1, i2, z1, e3, e4, e5, e6, i3, i4, e7, e8, b1, e9, hq _ _ h⟩
  ·exact q2 (fun b hb => absurd hb (pk.many hn b))
end
end Dw
namespace Dw
open PySem L2 Sn37
section
variable {P : Program} {w : World} {K : PySem.W.Frag} {mg : Str → Option Value} {base : Heap} {t : Adr}
theorem m_both {p : Packet} {s pw : Bytes} (h2 : p.all 2 ≠ []) (h3 : p.all 3 ≠ []) : matches_ p s pw = none := by
 unfold matches_
 split
 ·rename_i e; exact absurd e h3
 ·rename_i e _; exact absurd e h2
 ·rfl
theorem m_many {p : Packet} {s pw : Bytes} (h2 : p.all 2 = []) (h3 : p.all 3 ≠ []) (h : ∀ b, p.all 3 = [b] → b.length ≠ 17) : matches_ p s pw = none := by
 unfold matches_
 split
 ·rename_i e; exact absurd e h3
 ·rename_i b _ e
  show (chal p).bind _ = none
  cases chal p with
  | none => rfl
  | some c => exact if_pos (h b e)
 ·rfl
theorem m_chall {p : Packet} {s pw b : Bytes} (h2 : p.all 2 = []) (h3 : p.all 3 = [b]) (hl : b.length = 17) : matches_ p s pw = (chal p).map fun c => b.drop 1 == md5 (b.take 1 ++ (pw ++ c)) := by
 unfold matches_
 split
 ·rename_i e; rw [h3] at e; cases e
 ·rename_i b' _ e
  rw [h3] at e
  have e := (List.cons.inj e).1
  subst e
  show (chal p).bind _ = _
  cases chal p with
  | none => rfl
  | some c => exact if_neg (fun h => h hl)
 ·rename_i h4 h5
  exact (h5 b h2 h3).elim
theorem m_pass {p : Packet} {s pw b : Bytes} (h3 : p.all 3 = []) (h2 : p.all 2 = [b]) (hb : ¬ badPass b) : matches_ p s pw = some (bare (shown s 8 p.auth b) == pw) := by
 unfold matches_
 split
 ·rename_i b' e _
  rw [h2] at e
  have e := (List.cons.inj e).1
  subst e
  exact if_neg (show ¬ (_ ∨ _ ∨ _) from hb)
 ·rename_i e; rw [h3] at e; cases e
 ·rename_i h4 h5
  exact (h4 b h2 h3).elim
theorem m_bad {p : Packet} {s pw : Bytes} (h3 : p.all 3 = []) (h : ∀ b, p.all 2 = [b] → badPass b) : matches_ p s pw = none := by
 unfold matches_
 split
 ·rename_i b' e _
  exact if_pos (show _ ∨ _ ∨ _ from h b' e)
 ·rename_i e; rw [h3] at e; cases e
 ·rfl
def UvAt (t : Adr) (H : Hp) (v : V) (u : Option User) : Prop := match u with | none => v = .non | some u => ∃ x, v = .ref x ∧ UsAt t H x u
def spRight (t : Adr) : Sp := fun vs H Q E => ∃ x ls v p z, ∃ (secret : List Nat) (u : Option User), vs = [.ref x, .ref ls, v] ∧ PkAt t H x p z ∧ Ls H ls secret ∧ secret.length ≤ 64 ∧ By secret ∧ UvAt t H v u ∧ (∀ u', u = some u' → UsOk u') ∧
 (∀ r, matches_ p secret ((u.map fun u => u.password).getD []) = some r → ∀ H', Same H H' → Q (.bl (u.isSome && r)) H') ∧ (matches_ p secret ((u.map fun u => u.password).getD []) = none → NoA t H E)
theorem sc_right : FnScope ["packet", "secret", "user", "hashed", "challenge", "password"] ["packet", "secret", "user"] (defScope (top 46)) := ⟨rfl, rfl, rfl, by decide +kernel, rfl, by decide +kernel, by decide +kernel⟩
theorem ok_is_password_right (T : Txt K mg t) : FnOk P w K mg base (CXF P w) 5 t.is_password_right.a t.is_password_right.fd ["packet", "secret", "user"] (spRight t) := by
 refine T.access.is_password_right.fn.okX sc_right (fun vs H Q E h => ?_) (fun cdv A outer s H vs Q E hr h => ?_)
 ·obtain ⟨x, ls, v, p, z, secret, u, rfl, _⟩ := h
  rfl
 ·obtain ⟨x, ls, v, p, z, secret, u, rfl, pk, hs, hsl, hsb, hu, huk, q1, q2⟩ := h
  obtain ⟨dx, ld, la, lm, h1, h2, h3, h4⟩ := pk.ex
  have ku := T.settings.cUser
  refine ⟨_, (pss_cons (ps_if (pt_truth (methN (pv 0) T.packets.cPacket.cl T.packets.packet_all_of (ok_packet_all_of T) hr (pa_cons (gN T "HASHED_PASSWORD" 3) pa_nil)) (fun _ => rfl))
   (pss_cons (ps_if (pt_truth (methN (pv 0) T.packets.cPacket.cl T.packets.packet_all_of (ok_packet_all_of T) hr (pa_cons (gN T "PASSWORD" 2) pa_nil)) (fun _ => rfl))
    (pss_one (ps_raise T.packets.cNoAnswer hr rfl))
    pss_nil)
    (pss_cons (ps_set (i := 3) sc_right.nd rfl (Or.inl rfl) (callX (ok_read_hashed T) T.access.read_hashed hr passF (pa_cons (pv 0) pa_nil)))
    (pss_cons (ps_set (i := 4) sc_right.nd rfl (Or.inl rfl) (callX (ok_read_challenge T) T.access.read_challenge hr passF (pa_cons (pv 0) pa_nil)))
    (pss_one (ps_ret (pe_and (pe_cmpR op_notN (pv 2) pe_non (nomark _)) (pe_one (pe_cmpR (o_eqN K hr.units) (callN (ok_md5 T) T.digest.md5 hr (pa_cons (pe_op o_cat (pe_op o_cat (pe_slice (sl_n K) (pv 3) po_none (po_some pe_int)) (fldK K (pv 2) rfl)) (pv 4)) pa_nil)) (pe_slice (sl_n K) (pv 3) (po_some pe_int) po_none) (nomark _)))))))))
   pss_nil)
   (pss_cons (ps_set (i := 5) sc_right.nd rfl (Or.inl rfl) (callX (ok_read_password T) T.access.read_password hr passF (pa_cons (pv 0) (pa_cons (pv 1) pa_nil))))
   (pss_one (ps_ret (pe_and (pe_cmpR op_notN (pv 2) pe_non (nomark _)) (pe_one (pe_cmpR (o_eqN K hr.units) (fldK K (pv 2) rfl) (pv 5) (nomark _)))))))), ?_⟩
  refine ⟨_, rfl, x, dx, _, rfl, h1, fsPacket_no "all_of", x, p, z, 3, rfl, pk, fun a H1 n1 s1 e1 => ?_⟩
  refine ⟨_, .inl ⟨_, SqL.of e1, rfl⟩, ite2 (fun c => ?_) (fun c => ?_)⟩
  ·have c : p.all 3 ≠ [] := fun e => by
    rw [← pk.empty] at e
    rw [e] at c
    cases c
   refine ⟨_, rfl, x, dx, _, rfl, s1 _ _ h1, fsPacket_no "all_of", x, p, z, 2, rfl, pk.same s1, fun a2 H2 n2 s2 e2 => ?_⟩
   refine ⟨_, .inl ⟨_, SqL.of e2, rfl⟩, ite2 (fun c2 => ?_) (fun c2 => ?_)⟩
   ·have c2 : p.all 2 ≠ [] := fun e => by
     rw [← pk.empty] at e
     rw [e] at c2
     cases c2
    exact q2 (m_both c2 c) H2 (s1.trans s2)
   have c2 : p.all 2 = [] := (pk.empty 2).mp (emp_of c2)
   have sH := s1.trans s2
   refine ⟨_, rfl, x, p, z, rfl, pk.same sH, fun b hb hl lv H3 s3 l3 => ?_, fun hn H' s' => q2 (m_many c2 c hn) H' (sH.trans s')⟩
   have hm := m_chall (s := secret) (pw := (u.map fun u => u.password).getD []) c2 hb hl
   have s03 := sH.trans s3
   have hbk := pk.byk (k := 3) (b := b) (by rw [hb]; exact List.mem_singleton.mpr rfl)
   refine ⟨_, rfl, x, p, z, rfl, pk.same s03, fun c0 hc0 lc H4 s4 l4 => ?_, fun hn H' s' => q2 (by rw [hm, hn]; rfl) H' (s03.trans s')⟩
   rw [hc0] at hm
   have q := q1 _ hm
   have s04 := s03.trans s4
   have hcb : By c0 ∧ c0.length ≤ 4096 := by
    unfold chal at hc0
    split at hc0
    ·have e := Option.some.inj hc0
     rw [← e]
     refine ⟨fun c hc => ?_, by rw [auth_length pk.ok]; decide⟩
     rw [pk.ok.au] at hc
     exact pk.ok.by_ c (List.mem_of_mem_drop (List.mem_of_mem_take hc))
    ·rename_i c1 ec
     have e := Option.some.inj hc0
     rw [← e]
     have := pk.byk (k := 60) (b := c1) (by rw [ec]; exact List.mem_singleton.mpr rfl)
     exact ⟨this.1, this.2.1⟩
    ·cases hc0
   refine ⟨_, rfl, rfl, ?_⟩
   cases u with
   | none =>
    have hu : v = .non := hu
    subst hu
    exact ⟨_, rfl, ite2 (fun z => absurd z (by decide)) (fun _ => q H4 s04)⟩
   | some u =>
    obtain ⟨ux, rfl, du, up_, ut, a1, a2, a3⟩ := hu
    have uk := huk u rfl
    refine ⟨_, rfl, ite2 (fun _ => ?_) (fun z => absurd rfl z)⟩
    refine ⟨_, rfl, _, rfl, lv, b, rfl, SqL.of (s4 _ _ l3), fun p5 H5 n5 s5 l5 => ?_⟩
    rw [show cutN b none (some 1) = b.take 1 from cutN_to b 1] at l5
    have s05 := s04.trans s5
    have hbl : (b.take 1).length ≤ 1 := by rw [List.length_take]; omega
    refine ⟨_, rfl, ux, _, du, _, _, rfl, s05 _ _ a1, ku.cl, na ku _, fsUser_password, p5, up_, _, _, rfl, rfl, l5, s05 _ _ a2, (by have := uk.pl; omega), fun p6 H6 n6 s6 l6 => ?_⟩
    refine ⟨_, rfl, p6, lc, _, c0, rfl, rfl, l6, s6 _ _ (s5 _ _ l4), (by rw [List.length_append]; have := uk.pl; omega), fun p7 H7 n7 s7 l7 => ?_⟩
    refine ⟨p7, _, rfl, l7, (by rw [List.length_append, List.length_append]; have := uk.pl; omega), by_app (by_app (fun c hc => hbk.1 c (List.mem_of_mem_take hc)) uk.pb) hcb.1, fun p8 H8 n8 s8 l8 => ?_⟩
    have s38 : Same H3 H8 := (((s4.trans s5).trans s6).trans s7).trans s8
    refine ⟨_, rfl, _, rfl, lv, b, rfl, SqL.of (s38 _ _ l3), fun p9 H9 n9 s9 l9 => ?_⟩
    rw [show cutN b (some 1) none = b.drop 1 from cutN_from b 1] at l9
    refine ⟨p8, p9, _, _, rfl, rfl, SqL.of (s9 _ _ l8), SqL.of l9, ?_⟩
    have q := q H9 (s03.trans (s38.trans s9))
    dsimp only at q
    rw [beq_dec] at q
    refine cast ?_ q
    congr 2
    rw [List.append_assoc]
    exact decide_eq_decide.mpr ⟨fun h => h.symm, fun h => h.symm⟩
  ·have c : p.all 3 = [] := (pk.empty 3).mp (emp_of c)
   refine ⟨_, rfl, _, rfl, x, ls, p, z, secret, rfl, pk.same s1, s1 _ _ hs, hsl, hsb, fun b hb hg => ?_, fun hn H' s' => q2 (m_bad c hn) H' (s1.trans s')⟩
   intro lp H2 n2 s2 l2
   have sH := s1.trans s2
   refine ⟨_, rfl, rfl, ?_⟩
   cases u with
   | none =>
    have hu : v = .non := hu
    subst hu
    refine ⟨_, rfl, ite2 (fun z => absurd z (by decide)) (fun _ => ?_)⟩
    exact q1 _ (m_pass c hb hg) H2 sH
   | some u =>
    obtain ⟨ux, rfl, du, up_, ut, a1, a2, a3⟩ := hu
    refine ⟨_, rfl, ite2 (fun _ => ?_) (fun z => absurd rfl z)⟩
    refine ⟨_, rfl, ux, _, du, _, _, rfl, sH _ _ a1, ku.cl, na ku _, fsUser_password, _, rfl, up_, lp, _, _, rfl, rfl, SqL.of (sH _ _ a2), SqL.of l2, ?_⟩
    have q := q1 _ (m_pass c hb hg) H2 sH
    rw [beq_dec] at q
    refine cast ?_ q
    congr 2
    exact decide_eq_decide.mpr ⟨fun h => h.symm, fun h => h.symm⟩
theorem one_of {p : Packet} {k : Nat} {b : Bytes} (h : p.all k = [b]) : p.one k = some b := by
 unfold Packet.one
 rw [h]
theorem one_no {p : Packet} {k : Nat} (h : ∀ b, p.all k ≠ [b]) : p.one k = none := by
 unfold Packet.one
 split
 ·rename_i b e; exact absurd e (h b)
 ·rfl
theorem nb_kV (n : List Nat) : nb n = (nK n).map kV := by
 unfold nb nK
 rw [List.map_map]
 rfl
theorem seq_mid {a b : TS} {D : Ends} {σ : L2.St} {H : Hp} (M : L2.St → Hp → Prop) (h2 : ∀ σ' H', M σ' H' → b D σ' H') (h1 : ∀ N : L2.St → Hp → Prop, (∀ σ' H', M σ' H' → N σ' H') → a { D with nx := N } σ H) : tSeq a b D σ H := h1 _ h2
def acc (us : List User) (ss : List Session) (p : Packet) (secret : Bytes) : Option Bytes := access ⟨⟨[], us⟩, ss, []⟩ p secret
theorem acc_no {us : List User} {ss : List Session} {p : Packet} {secret : Bytes} (h : signed p p.auth secret = false ∨ (p.all 4).isEmpty = true ∧ (p.all 32).isEmpty = true) : acc us ss p secret = none := by
 unfold acc access
 exact if_pos h
theorem acc_one {us : List User} {ss : List Session} {p : Packet} {secret : Bytes} (h : p.one 1 = none) : acc us ss p secret = none := by
 unfold acc access
 split
 ·rfl
 ·rw [h]; rfl
theorem acc_none {us : List User} {ss : List Session} {p : Packet} {secret n : Bytes} (h : ¬ (signed p p.auth secret = false ∨ (p.all 4).isEmpty = true ∧ (p.all 32).isEmpty = true)) (hn : p.one 1 = some n) (hu : us.find? (fun u => u.name == n) = none) :
  acc us ss p secret = (matches_ p secret []).map fun _ => answer p secret 3 [] := by
 unfold acc access
 rw [if_neg h, hn]
 simp only [Option.bind_some]
 rw [hu]
 rfl
theorem acc_some {us : List User} {ss : List Session} {p : Packet} {secret n : Bytes} {u : User} (h : ¬ (signed p p.auth secret = false ∨ (p.all 4).isEmpty = true ∧ (p.all 32).isEmpty = true)) (hn : p.one 1 = some n) (hu : us.find? (fun u => u.name == n) = some u) :
  acc us ss p secret = (matches_ p secret u.password).map fun right => if right = false then answer p secret 3 [] else if (u.limit.any fun k => decide (k ≤ (ss.filter fun x => x.user == n).length)) = true then answer p secret 3 [(18, ascii "too many")] else answer p secret 2 u.told := by
 unfold acc access
 rw [if_neg h, hn]
 simp only [Option.bind_some]
 rw [hu]
 rfl
theorem access_acc (s : Server) (p : Packet) (secret : Bytes) : access s p secret = acc s.settings.users s.sessions p secret := rfl
structure UsersAt (t : Adr) (H : Hp) (du : Addr) (zu : ZU) : Prop where
 di : H du = some (.dT (kvU zu))
 us : ∀ q ∈ zu, UsAt t H q.1 q.2 ∧ UsOk q.2
structure SesAt (t : Adr) (H : Hp) (ls : Addr) (zs : ZS) : Prop where
 li : H ls = some (.lst (zs.map fun q => V.ref q.1))
 se : ∀ q ∈ zs, SeAt t H q.1 q.2
 mo : zs.length ≤ 64
theorem UsersAt.same {t : Adr} {H H' : Hp} {du : Addr} {zu : ZU} (h : UsersAt t H du zu) (s : Same H H') : UsersAt t H' du zu := ⟨s _ _ h.di, fun q hq => ⟨(h.us q hq).1.same s, (h.us q hq).2⟩⟩
theorem SesAt.same {t : Adr} {H H' : Hp} {du : Addr} {zu : ZS} (h : SesAt t H du zu) (s : Same H H') : SesAt t H' du zu := ⟨s _ _ h.li, fun q hq => (h.se q hq).same s, h.mo⟩
def ansOr (t : Adr) (H : Hp) (r : Option Bytes) (Q : VK) (E : XK) : Prop := (∀ b, r = some b → b.length ≤ 4096 → NewL H b Q) ∧ ((∀ b, r = some b → 4096 < b.length) → NoA t H E)
theorem ansOr.same {t : Adr} {H H' : Hp} {r : Option Bytes} {Q : VK} {E : XK} (h : ansOr t H r Q E) (s : Same H H') : ansOr t H' r Q E :=
 ⟨fun b e l p H2 n s2 k => h.1 b e l p H2 (s.free n) (s.trans s2) k, fun e H2 s2 => h.2 e H2 (s.trans s2)⟩
def spAccess (t : Adr) : Sp := fun vs H Q E => ∃ x ls du lse p z zu zs, ∃ secret : List Nat, vs = [.ref x, .ref ls, .ref du, .ref lse] ∧ PkAt t H x p z ∧ Ls H ls secret ∧ secret.length ≤ 64 ∧ By secret ∧ UsersAt t H du zu ∧ SesAt t H lse zs ∧ ansOr t H (acc (zu.map (·.2)) (zs.map (·.2)) p secret) Q E
theorem sc_access : FnScope ["packet", "secret", "users", "sessions", "name", "user"] ["packet", "secret", "users", "sessions"] (defScope (top 45)) := ⟨rfl, rfl, rfl, by decide +kernel, rfl, by decide +kernel, by decide +kernel⟩
theorem ok_answer_access (T : Txt K mg t) : FnOk P w K mg base (CXF P w) 6 t.answer_access.a t.answer_access.fd ["packet", "secret", "users", "sessions"] (spAccess t) := by
 refine T.access.answer_access.fn.okX sc_access (fun vs H Q E h => ?_) (fun cdv A outer s H vs Q E hr h => ?_)
 ·obtain ⟨x, ls, du, lse, p, z, zu, zs, secret, rfl, _⟩ := h
  rfl
 ·obtain ⟨x, ls, du, lse, p, z, zu, zs, secret, rfl, pk, hs, hsl, hsb, hu, hse, hq⟩ := h
  obtain ⟨dx, ld, la, lm, h1, h2, h3, h4⟩ := pk.ex
  have ku := T.settings.cUser
  have kp := T.packets.cPacket
  have ka := T.packets.cAttribute
  refine ⟨_, (pss_cons (ps_expr (callX (ok_check_proof T) T.packets.check_proof hr passF (pa_cons (pv 0) (pa_cons (fldK K (pv 0) rfl) (pa_cons (pv 1) pa_nil)))))
   (pss_cons (ps_if ((pw_and (pt_not (pt_truth (methN (pv 0) T.packets.cPacket.cl T.packets.packet_all_of (ok_packet_all_of T) hr (pa_cons (gN T "DOOR_ADDRESS" 4) pa_nil)) (fun _ => rfl))) (pw_and1 (pt_not (pt_truth (methN (pv 0) T.packets.cPacket.cl T.packets.packet_all_of (ok_packet_all_of T) hr (pa_cons (gN T "DOOR_NAME" 32) pa_nil)) (fun _ => rfl)))))).pt
   (pss_one (ps_raise T.packets.cNoAnswer hr rfl))
   pss_nil)
   (pss_cons (ps_set (i := 4) sc_access.nd rfl (Or.inl rfl) (fldK K (methX (pv 0) T.packets.cPacket.cl T.packets.packet_only (ok_packet_only T) hr passF (pa_cons (gN T "USER_NAME" 1) pa_nil)) rfl))
   (pss_cons (ps_set (i := 5) sc_access.nd rfl (Or.inl rfl) (pe_dget1 (hu1 hr) (pv 2) (pe_callTy call_tuple_of rfl (bl_in T "tuple") bt_tuple (pa_cons (pv 4) pa_nil)) ⟨rfl, rfl, rfl, rfl⟩))
   (pss_cons (ps_if (pt_not (pt_truth (callX (ok_is_password_right T) T.access.is_password_right hr passF (pa_cons (pv 0) (pa_cons (pv 1) (pa_cons (pv 5) pa_nil)))) (fun _ => rfl)))
   (pss_one (ps_ret (callX (ok_make_answer T) T.packets.make_answer hr passF (pa_cons (pv 0) (pa_cons (pv 1) (pa_cons (gN T "TURNED_AWAY" 3) (pa_cons (pe_lst pa_nil) pa_nil)))))))
   pss_nil)
   (pss_cons (ps_if (pt_truth (callN (ok_is_limit_reached T) T.access.is_limit_reached hr (pa_cons (pv 5) (pa_cons (pv 4) (pa_cons (pv 3) pa_nil)))) (fun _ => rfl))
   (pss_one (ps_ret (callX (ok_make_answer T) T.packets.make_answer hr passF (pa_cons (pv 0) (pa_cons (pv 1) (pa_cons (gN T "TURNED_AWAY" 3) (pa_cons (callN (ok_attribute_bytes T) T.packets.attribute_bytes hr (pa_cons (gN T "MESSAGE" 18) (pa_cons (callN (ok_codes T) T.signs.codes hr (pa_cons pe_str pa_nil)) pa_nil))) pa_nil)))))))
   pss_nil)
   (pss_one (ps_ret (callX (ok_make_answer T) T.packets.make_answer hr passF (pa_cons (pv 0) (pa_cons (pv 1) (pa_cons (gN T "LET_IN" 2) (pa_cons (fldK K (pv 5) rfl) pa_nil))))))))))))), ?_⟩
  have no : acc (zu.map (·.2)) (zs.map (·.2)) p secret = none → NoA t H E := fun e => hq.2 (fun b h => by rw [e] at h; cases h)
  have haub : By p.auth := fun c hc => by
   rw [pk.ok.au] at hc
   exact pk.ok.by_ c (List.mem_of_mem_drop (List.mem_of_mem_take hc))
  refine ⟨_, rfl, _, rfl, x, _, dx, _, _, rfl, h1, kp.cl, na kp _, fsPacket_data, _, rfl, x, ld, ls, p, z, p.auth, secret, rfl, pk, ?_, auth_length pk.ok, haub, hs, hsl, hsb, fun hsg H1 s1 => ?_, fun hsg H' s' => no (acc_no (.inl hsg)) H' s'⟩
  ·unfold datOf
   rw [← whole_parts pk.ok]
   exact h2
  dsimp only
  refine seq_mid (fun σ' H' => σ' = [some (.ref x), some (.ref ls), some (.ref du), some (.ref lse), none, none] ∧ Same H H' ∧ ¬ ((p.all 4).isEmpty = true ∧ (p.all 32).isEmpty = true)) ?_ ?_
  ·rintro σ' H2 ⟨rfl, s2, hd⟩
   have hgo : ¬ (signed p p.auth secret = false ∨ (p.all 4).isEmpty = true ∧ (p.all 32).isEmpty = true) := by
    rintro (h | h)
    ·rw [hsg] at h; cases h
    ·exact hd h
   have fin : ∀ (l : List (Nat × Bytes)) (code : Nat) (Hk : Hp) (lt : Addr), Same H Hk → acc (zu.map (·.2)) (zs.map (·.2)) p secret = some (answer p secret code l) → Ls Hk lt (attrBytes l) → (attrBytes l).length ≤ 9000 → By (attrBytes l) → code < 256 → spAnswer t [.ref x, .ref ls, nV code, .ref lt] Hk Q E := by
    intro l code Hk lt sk ea hlt hll hlb hc
    refine ⟨x, ls, lt, p, z, secret, code, l, rfl, pk.same sk, sk _ _ hs, hsl, hsb, hc, hlt, hll, hlb, fun hle => ?_, fun hle => ?_⟩
    ·exact (hq.same sk).1 _ ea (by rw [answer_length]; exact hle)
    ·exact (hq.same sk).2 (fun b e => by rw [ea] at e; rw [← Option.some.inj e, answer_length]; exact hle)
   refine ⟨_, rfl, x, dx, _, rfl, s2 _ _ h1, fsPacket_no "only", x, p, z, 1, rfl, pk.same s2, fun y hy H3 s3 => ?_, fun hn H' s' => no (acc_one (one_no (pk.many hn))) H' (s2.trans s')⟩
   have hm : y ∈ ofK z 1 := by rw [hy]; exact List.mem_singleton.mpr rfl
   have s03 := s2.trans s3
   obtain ⟨⟨dy, lv, a1, a2⟩, ek⟩ := (pk.same s03).in_ hm
   have hone := one_of (pk.sole hy)
   generalize y.2.2.2 = n at hone a2
   refine ⟨y.1, _, dy, _, _, rfl, a1, ka.cl, na ka _, fsAttribute_value, ?_⟩
   refine ⟨_, rfl, du, rfl, .inr ⟨_, .inl (s03 _ _ hu.di)⟩, _, rfl, lv, nb n, rfl, .inl ⟨SqL.of a2, fun tl ntl => ?_⟩⟩
   have s4 : Same H3 (upd H3 tl (.tup (nb n))) := up ntl
   have s04 := s03.trans s4
   have hkt : (upd H3 tl (.tup (nb n))) tl = some (.tup ((nK n).map kV)) := by rw [upd_same, nb_kV]
   refine ⟨_, DGet.t (s04 _ _ hu.di) hkt, ?_⟩
   have lv4 := s4 _ _ a2
   generalize upd H3 tl (.tup (nb n)) = H4 at *
   rw [valV_u]
   cases hf : zu.find? (fun q => q.2.name == n) with
   | none =>
    have hf2 : (zu.map (·.2)).find? (fun u => u.name == n) = none := by rw [find_u, hf]; rfl
    have ea := acc_none (ss := zs.map (·.2)) hgo hone hf2
    refine ⟨_, rfl, _, rfl, _, rfl, x, ls, .non, p, z, secret, none, rfl, pk.same s04, s04 _ _ hs, hsl, hsb, rfl, (fun u' e => nomatch e), fun r hr H5 s5 => ?_, fun hn H' s' => no (by rw [ea]; rw [show ((none : Option User).map fun u => u.password).getD [] = [] from rfl] at hn; rw [hn]; rfl) H' (s04.trans s')⟩
    have hr : matches_ p secret [] = some r := hr
    rw [hr] at ea
    refine ⟨_, rfl, ite2 (fun _ => ?_) (fun z => absurd rfl z)⟩
    refine ⟨_, rfl, _, rfl, (by show 0 ≤ sizeLine; decide), fun pl npl => ?_⟩
    exact fin [] 3 _ pl ((s04.trans s5).trans (up npl)) ea upd_same (by decide) (fun c hc => absurd hc List.not_mem_nil) (by decide)
   | some qu =>
    obtain ⟨ux, u⟩ := qu
    have hf2 : (zu.map (·.2)).find? (fun u => u.name == n) = some u := by rw [find_u, hf]; rfl
    have ea := acc_some (ss := zs.map (·.2)) hgo hone hf2
    have hmu := List.mem_of_find?_eq_some hf
    obtain ⟨hua, huk⟩ := hu.us _ hmu
    refine ⟨_, rfl, _, rfl, _, rfl, x, ls, .ref ux, p, z, secret, some u, rfl, pk.same s04, s04 _ _ hs, hsl, hsb, ⟨ux, rfl, hua.same s04⟩, (fun u' e => by rw [← Option.some.inj e]; exact huk), fun r hr H5 s5 => ?_, fun hn H' s' => no (by rw [ea]; rw [show ((some u).map fun u => u.password).getD [] = u.password from rfl] at hn; rw [hn]; rfl) H' (s04.trans s')⟩
    have hr : matches_ p secret u.password = some r := hr
    rw [hr] at ea
    have s05 := s04.trans s5
    cases r with
    | false =>
     refine ⟨_, rfl, ite2 (fun _ => ?_) (fun z => absurd rfl z)⟩
     refine ⟨_, rfl, _, rfl, (by show 0 ≤ sizeLine; decide), fun pl npl => ?_⟩
     exact fin [] 3 _ pl (s05.trans (up npl)) ea upd_same (by decide) (fun c hc => absurd hc List.not_mem_nil) (by decide)
    | true =>
     refine ⟨_, rfl, ite2 (fun z => absurd z (fun e => nomatch (e : false = true))) (fun _ => ?_)⟩
     refine ⟨_, rfl, _, rfl, _, rfl, ux, lv, lse, u, n, zs, rfl, hua.same s05, s5 _ _ lv4, s05 _ _ hse.li, fun q hq => (hse.se q hq).same s05, hse.mo, fun H6 s6 => ?_⟩
     have s06 := s05.trans s6
     have ea : acc (zu.map (·.2)) (zs.map (·.2)) p secret = some (if (u.limit.any fun k => decide (k ≤ ((zs.map (·.2)).filter fun x => x.user == n).length)) = true then answer p secret 3 [(18, ascii "too many")] else answer p secret 2 u.told) := ea
     refine ⟨_, rfl, ite2 (fun c => ?_) (fun c => ?_)⟩
     ·rw [if_pos c] at ea
      refine ⟨_, rfl, _, rfl, _, rfl, by decide, fun p7 H7 n7 s7 l7 => ?_⟩
      refine ⟨p7, 18, _, rfl, l7, by decide, fun p8 H8 n8 s8 l8 => ?_⟩
      refine fin [(18, ascii "too many")] 3 H8 p8 ((s06.trans s7).trans s8) ea ?_ (by decide +kernel) (by decide +kernel) (by decide)
      refine cast ?_ l8
      congr 1
     ·rw [if_neg c] at ea
      obtain ⟨du2, lp2, lt2, b1, b2, b3⟩ := hua.same s06
      refine ⟨_, rfl, _, rfl, _, rfl, ux, _, du2, _, _, rfl, b1, ku.cl, na ku _, fsUser_told, ?_⟩
      exact fin u.told 2 H6 lt2 s06 ea b3 huk.tl huk.tb (by decide)
  ·intro N hN
   refine ⟨_, rfl, x, dx, _, rfl, s1 _ _ h1, fsPacket_no "all_of", x, p, z, 4, rfl, pk.same s1, fun a2 H2 n2 s2 e2 => ?_⟩
   have s02 := s1.trans s2
   refine ⟨_, .inl ⟨_, SqL.of e2, rfl⟩, ite2 (fun c => ?_) (fun c => ?_)⟩
   ·have c : ofK z 4 = [] := emp_of (fun z => by rw [z] at c; cases c)
    refine ⟨_, rfl, x, dx, _, rfl, s02 _ _ h1, fsPacket_no "all_of", x, p, z, 32, rfl, pk.same s02, fun a3 H3 n3 s3 e3 => ?_⟩
    refine ⟨_, .inl ⟨_, SqL.of e3, rfl⟩, ite2 (fun c2 => ?_) (fun c2 => ?_)⟩
    ·have c2 : ofK z 32 = [] := emp_of (fun z => by rw [z] at c2; cases c2)
     refine no (acc_no (.inr ?_)) H3 (s02.trans s3)
     rw [(pk.empty 4).mp c, (pk.empty 32).mp c2]
     exact ⟨rfl, rfl⟩
    ·refine hN _ _ ⟨rfl, s02.trans s3, fun h => c2 ?_⟩
     rw [(pk.empty 32).mpr (List.isEmpty_iff.mp h.2)]
     rfl
   ·refine hN _ _ ⟨rfl, s02, fun h => c ?_⟩
    rw [(pk.empty 4).mpr (List.isEmpty_iff.mp h.1)]
    rfl
end
end Dw
namespace Dw
open PySem L2 Sn37
theorem dec_str : ∀ n : Fin 256, (PySem.Str.ofString (toString ((n.1 : Nat) : Int))).cps.toList = decimal n.1 := by decide +kernel
theorem log_256 {n : Nat} (h : n < 256) : ((n : Nat) : Int).natAbs.log2 < 1920 := by
 rw [Int.natAbs_natCast]
 exact Nat.lt_of_le_of_lt (Nat.log2_le_self n) (by omega)
section
variable {P : Program} {w : World} {K : PySem.W.Frag} {mg : Str → Option Value} {base : Heap} {t : Adr}
def spISession (t : Adr) : Sp := fun vs H Q _ => ∃ x dx a b c, vs = [.ref x, a, b, c] ∧ H x = some (.ins t.cSession dx []) ∧ ∀ H', Stored H H' x (.ins t.cSession dx (fsSession a b c)) → Q .non H'
theorem sc_iSession : FnScope ["self", "client", "user_name", "session_name"] ["self", "client", "user_name", "session_name"] (defScope (inClass (top 60) 0)) := ⟨rfl, rfl, rfl, by decide +kernel, rfl, by decide +kernel, by decide +kernel⟩
theorem ok_iSession (T : Txt K mg t) : FnOk P w K mg base CX0 1 t.iSession.a t.iSession.fd ["self", "client", "user_name", "session_name"] (spISession t) := by
 refine T.accounting.iSession.fn.ok sc_iSession (fun vs H Q E h => ?_) (fun cdv A outer s H vs Q E hr h => ?_)
 ·obtain ⟨x, dx, a, b, c, rfl, _⟩ := h
  rfl
 ·obtain ⟨x, dx, a, b, c, rfl, hx, q⟩ := h
  have kl := T.accounting.cSession
  refine ⟨_, (pss_cons (ps_fld (pv 0) (pv 1) rfl)
   (pss_cons (ps_fld (pv 0) (pv 2) rfl)
   (pss_one (ps_fld (pv 0) (pv 3) rfl)))), ?_⟩
  refine ⟨_, rfl, _, rfl, x, _, dx, [], rfl, hx, kl.cl, na kl _, by show 0 < 1000; decide, _, rfl, _, rfl, x, _, dx, _, rfl, upd_same, kl.cl, na kl _, by show 1 < 1000; decide, _, rfl, _, rfl, x, _, dx, _, rfl, upd_same, kl.cl, na kl _, ?_, ?_⟩
  ·exact Nat.lt_of_le_of_lt (length_putF _ _ _) (by show 1 + 1 < 1000; decide)
  ·refine q _ ⟨upd_same, fun b u e hb => ?_⟩
   rw [upd_ne hb, upd_ne hb, upd_ne hb]
   exact e
def spSame (t : Adr) : Sp := fun vs H Q _ => ∃ x y a b, vs = [.ref x, .ref y] ∧ SeAt t H x a ∧ SeAt t H y b ∧ Q (.bl (a == b)) H
theorem sc_same : FnScope ["self", "other"] ["self", "other"] (defScope (inClass (top 60) 1)) := ⟨rfl, rfl, rfl, by decide +kernel, rfl, by decide +kernel, by decide +kernel⟩
theorem se_beq (a b : Session) : (a == b) = (decide (a.client = b.client) && (decide (a.user = b.user) && decide (a.name = b.name))) := by
 obtain ⟨u1, c1, n1⟩ := a
 obtain ⟨u2, c2, n2⟩ := b
 show decide _ = _
 rw [← Bool.decide_and, ← Bool.decide_and]
 refine decide_eq_decide.mpr ⟨fun h => ?_, fun h => ?_⟩
 ·cases h
  exact ⟨rfl, rfl, rfl⟩
 ·obtain ⟨h1, h2, h3⟩ := h
  dsimp only at h1 h2 h3
  rw [h1, h2, h3]
theorem ok_session_is_same (T : Txt K mg t) : FnOk P w K mg base CX0 1 t.session_is_same.a t.session_is_same.fd ["self", "other"] (spSame t) := by
 refine T.accounting.session_is_same.fn.ok sc_same (fun vs H Q E h => ?_) (fun cdv A outer s H vs Q E hr h => ?_)
 ·obtain ⟨x, y, a, b, rfl, _⟩ := h
  rfl
 ·obtain ⟨x, y, a, b, rfl, ⟨dx, lu, ln, h1, h2, h3⟩, ⟨dy, lu2, ln2, g1, g2, g3⟩, q⟩ := h
  have kl := T.accounting.cSession
  refine ⟨_, (pss_one (ps_ret (pe_and (pe_cmpR o_eq (fldK K (pv 0) rfl) (fldK K (pv 1) rfl) (nomark _)) (pe_and (pe_cmpR (o_eqN K hr.units) (fldK K (pv 0) rfl) (fldK K (pv 1) rfl) (nomark _)) (pe_one (pe_cmpR (o_eqN K hr.units) (fldK K (pv 0) rfl) (fldK K (pv 1) rfl) (nomark _))))))), ?_⟩
  rw [se_beq] at q
  refine ⟨_, rfl, x, _, dx, _, _, rfl, h1, kl.cl, na kl _, fsSession_client, _, rfl, y, _, dy, _, _, rfl, g1, kl.cl, na kl _, fsSession_client, _, _, rfl, rfl, _, rfl, ite2 (fun c => ?_) (fun c => ?_)⟩
  ·rw [c, Bool.true_and] at q
   refine ⟨_, rfl, x, _, dx, _, _, rfl, h1, kl.cl, na kl _, fsSession_user_name, _, rfl, y, _, dy, _, _, rfl, g1, kl.cl, na kl _, fsSession_user_name, _, _, _, _, rfl, rfl, SqL.of h2, SqL.of g2, _, rfl, ite2 (fun c => ?_) (fun c => ?_)⟩
   ·rw [c, Bool.true_and] at q
    exact ⟨_, rfl, x, _, dx, _, _, rfl, h1, kl.cl, na kl _, fsSession_session_name, _, rfl, y, _, dy, _, _, rfl, g1, kl.cl, na kl _, fsSession_session_name, _, _, _, _, rfl, rfl, SqL.of h3, SqL.of g3, q⟩
   ·rw [Bool.eq_false_iff.mpr c, Bool.false_and] at q
    exact q
  ·rw [Bool.eq_false_iff.mpr c, Bool.false_and] at q
   exact q
def spLine (t : Adr) : Sp := fun vs H Q _ => ∃ x a, vs = [.ref x] ∧ SeAt t H x a ∧ a.client < 256 ∧ By a.user ∧ By a.name ∧ a.user.length ≤ 4096 ∧ a.name.length ≤ 4096 ∧ NewL H (lineOf a) Q
theorem sc_line : FnScope ["self", "parts"] ["self"] (defScope (inClass (top 60) 2)) := ⟨rfl, rfl, rfl, by decide +kernel, rfl, by decide +kernel, by decide +kernel⟩
theorem ok_session_line (T : Txt K mg t) : FnOk P w K mg base CX0 2 t.session_line.a t.session_line.fd ["self"] (spLine t) := by
 refine T.accounting.session_line.fn.ok sc_line (fun vs H Q E h => ?_) (fun cdv A outer s H vs Q E hr h => ?_)
 ·obtain ⟨x, a, rfl, _⟩ := h
  rfl
 ·obtain ⟨x, a, rfl, ⟨dx, lu, ln, h1, h2, h3⟩, hc, hub, hnb, hul, hnl, q⟩ := h
  have kl := T.accounting.cSession
  refine ⟨_, (pss_cons (ps_set (i := 1) sc_line.nd rfl (Or.inl rfl) (pe_op o_cat (pe_op o_cat (callN (ok_codes T) T.signs.codes hr (pa_cons (pe_callTy call_str_int rfl (bl_in T "str") bt_str (pa_cons (fldK K (pv 0) rfl) pa_nil)) pa_nil)) (callN (ok_codes T) T.signs.codes hr (pa_cons pe_str pa_nil))) (callN (ok_hex_codes T) T.signs.hex_codes hr (pa_cons (fldK K (pv 0) rfl) pa_nil))))
   (pss_one (ps_ret (pe_op o_cat (pe_op o_cat (pe_op o_cat (pv 1) (callN (ok_codes T) T.signs.codes hr (pa_cons pe_str pa_nil))) (callN (ok_hex_codes T) T.signs.hex_codes hr (pa_cons (fldK K (pv 0) rfl) pa_nil))) (callN (ok_codes T) T.signs.codes hr (pa_cons pe_str pa_nil)))))), ?_⟩
  have hdl := decimal_len (show a.client < 1000 by omega)
  have hx1 := hex_length a.user
  have hx2 := hex_length a.name
  have ed : (PySem.Str.ofString (toString ((a.client : Nat) : Int))).cps.toList = decimal a.client := dec_str ⟨a.client, hc⟩
  refine ⟨_, rfl, x, _, dx, _, _, rfl, h1, kl.cl, na kl _, fsSession_client, _, rfl, log_256 hc, _, rfl, ?_, fun p1 H1 n1 s1 l1 => ?_⟩
  ·rw [← Array.length_toList, ed]
   omega
  have l1 : Ls H1 p1 (decimal a.client) := by rw [← ed]; exact l1
  refine ⟨_, rfl, by decide, fun p2 H2 n2 s2 l2 => ?_⟩
  have l2 : Ls H2 p2 [32] := l2
  have s02 := s1.trans s2
  refine ⟨p1, p2, _, _, rfl, rfl, s2 _ _ l1, l2, (by show _ + 1 ≤ 200000; omega), fun p3 H3 n3 s3 l3 => ?_⟩
  have s03 := s02.trans s3
  refine ⟨_, rfl, x, _, dx, _, _, rfl, s03 _ _ h1, kl.cl, na kl _, fsSession_user_name, lu, _, rfl, s03 _ _ h2, hub, by omega, fun p4 H4 n4 s4 l4 => ?_⟩
  refine ⟨p3, p4, _, _, rfl, rfl, s4 _ _ l3, l4, (by rw [List.length_append]; show _ + 1 + _ ≤ 200000; omega), fun p5 H5 n5 s5 l5 => ?_⟩
  have s05 := (s03.trans s4).trans s5
  refine ⟨_, rfl, _, rfl, by decide, fun p6 H6 n6 s6 l6 => ?_⟩
  have l6 : Ls H6 p6 [32] := l6
  refine ⟨p5, p6, _, _, rfl, rfl, s6 _ _ l5, l6, (by rw [List.length_append, List.length_append]; show _ + 1 + _ + 1 ≤ 200000; omega), fun p7 H7 n7 s7 l7 => ?_⟩
  have s07 := (s05.trans s6).trans s7
  refine ⟨_, rfl, x, _, dx, _, _, rfl, s07 _ _ h1, kl.cl, na kl _, fsSession_session_name, ln, _, rfl, s07 _ _ h3, hnb, by omega, fun p8 H8 n8 s8 l8 => ?_⟩
  refine ⟨p7, p8, _, _, rfl, rfl, s8 _ _ l7, l8, (by rw [List.length_append, List.length_append, List.length_append]; show _ + 1 + _ + 1 + _ ≤ 200000; omega), fun p9 H9 n9 s9 l9 => ?_⟩
  have s09 := (s07.trans s8).trans s9
  refine ⟨_, rfl, by decide, fun pa Ha na_ sa la => ?_⟩
  have la : Ls Ha pa [10] := la
  refine ⟨p9, pa, _, _, rfl, rfl, sa _ _ l9, la, (by rw [List.length_append, List.length_append, List.length_append, List.length_append]; show _ + 1 + _ + 1 + _ + 1 ≤ 200000; omega), fun pb Hb nb_ sb lb => ?_⟩
  refine q pb Hb ((s09.trans sa).free nb_) ((s09.trans sa).trans sb) ?_
  refine cast ?_ lb
  congr 1
  unfold lineOf
  simp
def spCheck (t : Adr) : Sp := fun vs H Q E => ∃ x ls p z, ∃ secret : List Nat, vs = [.ref x, .ref ls] ∧ PkAt t H x p z ∧ Ls H ls secret ∧ secret.length ≤ 64 ∧ By secret ∧
 (p.auth = md5 (p.whole.take 4 ++ (List.replicate 16 0 ++ (p.whole.drop 20 ++ secret))) → signed p (List.replicate 16 0) secret = true → ∀ H', Same H H' → Q .non H') ∧
 (p.auth ≠ md5 (p.whole.take 4 ++ (List.replicate 16 0 ++ (p.whole.drop 20 ++ secret))) ∨ signed p (List.replicate 16 0) secret = false → NoA t H E)
theorem sc_check : FnScope ["packet", "secret", "blanked"] ["packet", "secret"] (defScope (top 61)) := ⟨rfl, rfl, rfl, by decide +kernel, rfl, by decide +kernel, by decide +kernel⟩
theorem ok_check_accounting (T : Txt K mg t) : FnOk P w K mg base (CXF P w) 6 t.check_accounting.a t.check_accounting.fd ["packet", "secret"] (spCheck t) := by
 refine T.accounting.check_accounting.fn.okX sc_check (fun vs H Q E h => ?_) (fun cdv A outer s H vs Q E hr h => ?_)
 ·obtain ⟨x, ls, p, z, secret, rfl, _⟩ := h
  rfl
 ·obtain ⟨x, ls, p, z, secret, rfl, pk, hs, hsl, hsb, q1, q2⟩ := h
  obtain ⟨dx, ld, la, lm, h1, h2, h3, h4⟩ := pk.ex
  have kp := T.packets.cPacket
  refine ⟨_, (pss_cons (ps_set (i := 2) sc_check.nd rfl (Or.inl rfl) (callN (ok_with_zeros T) T.packets.with_zeros hr (pa_cons (fldK K (pv 0) rfl) (pa_cons (gN T "AUTHENTICATOR_PLACE" 4) pa_nil))))
   (pss_cons (ps_if (pt_cmpR (o_neN K hr.units) (callN (ok_md5 T) T.digest.md5 hr (pa_cons (pe_op o_cat (pv 2) (pv 1)) pa_nil)) (fldK K (pv 0) rfl) (nomark _))
   (pss_one (ps_raise T.packets.cNoAnswer hr rfl))
   pss_nil)
   (pss_one (ps_expr (callX (ok_check_proof T) T.packets.check_proof hr passF (pa_cons (pv 0) (pa_cons (pv 2) (pa_cons (pv 1) pa_nil)))))))), ?_⟩
  have hm := pk.ok.most
  have hm0 := pk.ok.len
  have ez : zeroed p.whole 4 = datOf p (List.replicate 16 0) := by
   unfold zeroed datOf
   rw [List.append_assoc]
  have hzl : (datOf p (List.replicate 16 0)).length = p.whole.length := by
   unfold datOf
   rw [List.length_append, List.length_append, List.length_take, List.length_drop, List.length_replicate]
   omega
  have hrb : By (List.replicate 16 0) := fun c hc => by
   rw [(List.mem_replicate.mp hc).2]
   decide
  have hzb : By (datOf p (List.replicate 16 0)) := by
   unfold datOf
   exact by_app (fun c hc => pk.ok.by_ c (List.mem_of_mem_take hc)) (by_app hrb (fun c hc => pk.ok.by_ c (List.mem_of_mem_drop hc)))
  refine ⟨_, rfl, x, _, dx, _, _, rfl, h1, kp.cl, na kp _, fsPacket_data, ld, p.whole, 4, rfl, h2, by omega, fun p1 H1 n1 s1 l1 => ?_⟩
  rw [ez] at l1
  refine ⟨_, rfl, _, rfl, p1, ls, _, secret, rfl, rfl, l1, s1 _ _ hs, by omega, fun p2 H2 n2 s2 l2 => ?_⟩
  refine ⟨p2, _, rfl, l2, (by rw [List.length_append]; omega), by_app hzb hsb, fun p3 H3 n3 s3 l3 => ?_⟩
  have s03 := (s1.trans s2).trans s3
  have em : datOf p (List.replicate 16 0) ++ secret = p.whole.take 4 ++ (List.replicate 16 0 ++ (p.whole.drop 20 ++ secret)) := by
   unfold datOf
   rw [List.append_assoc, List.append_assoc]
  rw [em] at l3
  refine ⟨_, rfl, x, _, dx, _, _, rfl, s03 _ _ h1, kp.cl, na kp _, fsPacket_authenticator, p3, la, _, _, rfl, rfl, SqL.of l3, SqL.of (s03 _ _ h3), _, rfl, ite2 (fun c => ?_) (fun c => ?_)⟩
  ·have c : ¬ md5 (p.whole.take 4 ++ (List.replicate 16 0 ++ (p.whole.drop 20 ++ secret))) = p.auth := fun e => by
    rw [decide_eq_true e] at c
    cases c
   exact q2 (.inl (fun e => c e.symm)) H3 s03
  ·have c : md5 (p.whole.take 4 ++ (List.replicate 16 0 ++ (p.whole.drop 20 ++ secret))) = p.auth := by
    by_cases e : md5 (p.whole.take 4 ++ (List.replicate 16 0 ++ (p.whole.drop 20 ++ secret))) = p.auth
    ·exact e
    ·rw [decide_eq_false e] at c
     exact absurd rfl c
   refine ⟨_, rfl, _, rfl, _, rfl, x, p1, ls, p, z, List.replicate 16 0, secret, rfl, pk.same s03, s3 _ _ (s2 _ _ l1), List.length_replicate, hrb, s03 _ _ hs, hsl, hsb, fun hsg H4 s4 => ?_, fun hsg H' s' => q2 (.inr hsg) H' (s03.trans s')⟩
   exact q1 c.symm hsg H4 (s03.trans s4)
def spStatus (t : Adr) : Sp := fun vs H Q E => ∃ x p z, vs = [.ref x] ∧ PkAt t H x p z ∧ (∀ k, p.one 40 = some [0, 0, 0, k] → ∀ H', Same H H' → Q (nV k) H') ∧ ((∀ k, p.one 40 ≠ some [0, 0, 0, k]) → NoA t H E)
theorem sc_status : FnScope ["packet", "value"] ["packet"] (defScope (top 63)) := ⟨rfl, rfl, rfl, by decide +kernel, rfl, by decide +kernel, by decide +kernel⟩
theorem ok_read_status (T : Txt K mg t) : FnOk P w K mg base (CXF P w) 3 t.read_status.a t.read_status.fd ["packet"] (spStatus t) := by
 refine T.accounting.read_status.fn.okX sc_status (fun vs H Q E h => ?_) (fun cdv A outer s H vs Q E hr h => ?_)
 ·obtain ⟨x, p, z, rfl, _⟩ := h
  rfl
 ·obtain ⟨x, p, z, rfl, pk, q1, q2⟩ := h
  obtain ⟨dx, ld, la, lm, h1, h2, h3, h4⟩ := pk.ex
  have ka := T.packets.cAttribute
  refine ⟨_, (pss_cons (ps_set (i := 1) sc_status.nd rfl (Or.inl rfl) (fldK K (methX (pv 0) T.packets.cPacket.cl T.packets.packet_only (ok_packet_only T) hr passF (pa_cons (gN T "STATUS" 40) pa_nil)) rfl))
   (pss_cons (ps_if ((pw_or (pt_cmpR o_ne (pLen T (pv 1)) pe_int (nomark _)) (pw_or1 (pt_cmpR (o_neN K hr.units) (pe_slice (sl_n K) (pv 1) po_none (po_some pe_int)) (pe_lst (pa_cons pe_int (pa_cons pe_int (pa_cons pe_int pa_nil)))) (nomark _))))).pt
   (pss_one (ps_raise T.packets.cNoAnswer hr rfl))
   pss_nil)
   (pss_one (ps_ret (pe_ix (ix_nk K) (pv 1) pe_int (fun _ _ => rfl)))))), ?_⟩
  refine ⟨_, rfl, x, dx, _, rfl, h1, fsPacket_no "only", x, p, z, 40, rfl, pk, fun y hy H1 s1 => ?_, fun hn => ?_⟩
  ·have hm : y ∈ ofK z 40 := by rw [hy]; exact List.mem_singleton.mpr rfl
   obtain ⟨⟨dy, lv, a1, a2⟩, ek⟩ := (pk.same s1).in_ hm
   have hone := one_of (pk.sole hy)
   generalize y.2.2.2 = b at hone a2
   rw [hone] at q1 q2
   refine ⟨y.1, _, dy, _, _, rfl, a1, ka.cl, na ka _, fsAttribute_value, _, rfl, lv, b, rfl, SqL.of a2, _, 4, rfl, rfl, _, rfl, ite2 (fun c => ?_) (fun c => ?_)⟩
   ·have c : ¬ b.length = 4 := by simpa using c
    exact q2 (fun k e => c (by rw [Option.some.inj e]; rfl)) H1 s1
   ·have c : b.length = 4 := by simpa using c
    obtain ⟨b0, b1, b2, b3, rfl⟩ : ∃ b0 b1 b2 b3, b = [b0, b1, b2, b3] := by
     match b, c with
     | [b0, b1, b2, b3], _ => exact ⟨b0, b1, b2, b3, rfl⟩
    refine ⟨_, rfl, _, rfl, lv, _, rfl, SqL.of a2, fun p2 H2 n2 s2 l2 => ?_⟩
    have l2 : Ls H2 p2 [b0, b1, b2] := l2
    refine ⟨(by show 3 ≤ sizeLine; decide), fun p3 n3 => ?_⟩
    have s3 : Same H2 (upd H2 p3 (.lst (nb [0, 0, 0]))) := up n3
    refine ⟨p2, p3, _, [0, 0, 0], rfl, rfl, SqL.of (s3 _ _ l2), SqL.of upd_same, _, rfl, ite2 (fun c2 => ?_) (fun c2 => ?_)⟩
    ·have c2 : ¬ [b0, b1, b2] = [0, 0, 0] := fun e => by
      rw [decide_eq_true e] at c2
      cases c2
     refine q2 (fun k e => c2 ?_) _ ((s1.trans s2).trans s3)
     have e := Option.some.inj e
     simp only [List.cons.injEq] at e
     rw [e.1, e.2.1, e.2.2.1]
    ·have c2 : [b0, b1, b2] = [0, 0, 0] := by
      by_cases e : [b0, b1, b2] = [0, 0, 0]
      ·exact e
      ·rw [decide_eq_false e] at c2
       exact absurd rfl c2
     simp only [List.cons.injEq] at c2
     obtain ⟨rfl, rfl, rfl, _⟩ := c2
     have s03 := (s1.trans s2).trans s3
     exact ⟨_, rfl, lv, [0, 0, 0, b3], 3, b3, rfl, rfl, SqL.of (s3 _ _ (s2 _ _ a2)), rfl, q1 b3 rfl _ s03⟩
  ·exact q2 (fun k e => by rw [one_no (pk.many hn)] at e; cases e)
end
end Dw
namespace Dw
open PySem L2 Sn37
theorem ptK {X : Cx} {a : Expr} {ta : TE} (K : PySem.W.Frag) (ha : PE X a ta) (he : ∀ whole, isTrue a X.env whole = (do let v ← whole; standAt a.pos; holding [v] (truthy v))) (h : X.K = K := by rfl) :
  PT X a (fun σ H Q => ta σ H fun x H' => ∃ k, TruV K x H' k ∧ Q k H') := by
 subst h
 exact pt_truth ha he
abbrev rfz (z : ZS) : List V := z.map fun q => V.ref q.1
section
variable {P : Program} {w : World} {K : PySem.W.Frag} {mg : Str → Option Value} {base : Heap} {t : Adr}
theorem has_any (zs : ZS) (b : Session) : (zs.map fun q => q.2 == b).any id = (zs.map (·.2)).contains b := by
 induction zs with
 | nil => rfl
 | cons q r ih =>
  rw [List.map_cons, List.any_cons, ih, List.map_cons, List.contains_cons]
  congr 1
  show decide _ = decide _
  exact decide_eq_decide.mpr ⟨fun h => h.symm, fun h => h.symm⟩
def spWith (t : Adr) : Sp := fun vs H Q E => ∃ ls y zs b, vs = [.ref ls, .ref y] ∧ SesAt t H ls zs ∧ SeAt t H y b ∧
 ((zs.map (·.2)).contains b = true → ∀ l H', H l = none → Same H H' → H' l = some (.lst (rfz zs)) → Q (.ref l) H') ∧
 ((zs.map (·.2)).contains b = false → 64 ≤ zs.length → NoA t H E) ∧
 ((zs.map (·.2)).contains b = false → zs.length < 64 → ∀ l H', H l = none → Same H H' → H' l = some (.lst (rfz (zs ++ [(y, b)]))) → Q (.ref l) H')
theorem sc_with : FnScope ["sessions", "told", "session"] ["sessions", "told"] (defScope (top 64)) := ⟨rfl, rfl, rfl, by decide +kernel, rfl, by decide +kernel, by decide +kernel⟩
theorem ok_sessions_with (T : Txt K mg t) : FnOk P w K mg base (CXF P w) 3 t.sessions_with.a t.sessions_with.fd ["sessions", "told"] (spWith t) := by
 refine T.accounting.sessions_with.fn.okX sc_with (fun vs H Q E h => ?_) (fun cdv A outer s H vs Q E hr h => ?_)
 ·obtain ⟨ls, y, zs, b, rfl, _⟩ := h
  rfl
 ·obtain ⟨ls, y, zs, b, rfl, hz, hy, q1, q2, q3⟩ := h
  have kl := T.accounting.cSession
  refine ⟨_, (pss_cons (ps_if (pt_truth (pe_callB (cr_any rfl) rfl (bl_in T "any") bt_any (pa_cons (pe_lc (own := [("session", 2)]) rfl sc_with.nd (pi_list (pv 0)) (blkOk_by (by kernel_rfl)) (fun _ _ _ _ _ => (pg_name (i := 2) sc_with.nd rfl (Or.inl rfl))) (fun _ _ _ _ _ => pts_nil) (fun _ _ _ _ _ => (methN (pv 2) T.accounting.cSession.cl T.accounting.session_is_same (ok_session_is_same T) hr (pa_cons (pv 1) pa_nil)))) pa_nil)) (fun _ => rfl))
   (pss_one (ps_ret (pe_callTy call_list_of rfl (bl_in T "list") bt_list (pa_cons (pv 0) pa_nil))))
   pss_nil)
   (pss_cons (ps_if (pt_cmpR o_eq (pLenV T (pv 0)) (gN T "MOST_SESSIONS" 64) (nomark _))
   (pss_one (ps_raise T.packets.cNoAnswer hr rfl))
   pss_nil)
   (pss_one (ps_ret (pe_op op_cat (pv 0) (pe_lst (pa_cons (pv 1) pa_nil))))))), ?_⟩
  refine ⟨_, rfl, ls, rfl, ⟨_, SqL.of hz.li⟩, fun D hD => ?_⟩
  refine lc_fmz (K := K) (z := zs) (r := fun q => V.ref q.1) (fun q => true) (fun q => V.bl (q.2 == b)) (SqL.of hz.li) hD (by have := hz.mo; omega) (fun u H' Rn Ry hu sH hq => ?_) fun H' s' l' => ?_
  ·obtain ⟨du, lu, ln, a1, a2, a3⟩ := (hz.se u hu).same sH
   exact ⟨rfl, _, rfl, u.1, du, _, rfl, a1, fsSession_no "is_same", _, rfl, u.1, y, u.2, b, rfl, ⟨du, lu, ln, a1, a2, a3⟩, hy.same sH, hq⟩
  ·have el : (zs.filter fun q => true).map (fun q => V.bl (q.2 == b)) = (zs.map fun q => q.2 == b).map V.bl := by
    rw [List.filter_eq_self.mpr (fun _ _ => rfl), List.map_map]
    rfl
   rw [el] at l'
   have ha := has_any zs b
   refine ⟨D, _, rfl, SqL.of l', _, rfl, ite2 (fun c => ?_) (fun c => ?_)⟩
   ·rw [ha] at c
    refine ⟨_, rfl, ls, _, rfl, .inl (SqL.of (s' _ _ hz.li)), fun l nl => ?_⟩
    exact q1 c l _ (s'.free nl) (s'.trans (up nl)) upd_same
   ·rw [ha] at c
    have c := Bool.eq_false_iff.mpr c
    refine ⟨_, rfl, ls, _, rfl, .inl (SqL.of (s' _ _ hz.li)), _, 64, rfl, rfl, _, rfl, ite2 (fun c2 => ?_) (fun c2 => ?_)⟩
    ·have c2 := of_decide_eq_true c2
     rw [List.length_map] at c2
     exact q2 c (by omega) H' s'
    ·have c2 : ¬ (List.map (fun q : Addr × Session => V.ref q.1) zs).length = 64 := fun z => c2 (decide_eq_true z)
     rw [List.length_map] at c2
     have hm := hz.mo
     refine ⟨_, rfl, _, rfl, (by show 1 ≤ sizeLine; decide), fun p2 n2 => ?_⟩
     have s2 : Same H' (upd H' p2 (.lst [.ref y])) := up n2
     refine ⟨ls, p2, _, _, rfl, rfl, s2 _ _ (s' _ _ hz.li), upd_same, ?_, fun l nl => ?_⟩
     ·rw [List.length_map]
      exact Nat.le_trans (show _ + 1 ≤ 100 by omega) (by decide)
     ·refine q3 c (by omega) l _ (s'.free (s2.free nl)) ((s'.trans s2).trans (up nl)) ?_
      rw [upd_same]
      exact congrArg (fun l => some (HO.lst l)) (List.map_append (f := fun q : Addr × Session => V.ref q.1) (l₁ := zs) (l₂ := [(y, b)])).symm
def after2 (ss : List Session) (c k : Nat) (a b : Option Bytes) : Option (List Session) := match a, b with
 | some u, some n => if k = 1 ∨ k = 3 then (if ss.contains ⟨u, c, n⟩ = true then some ss else if SESSIONS ≤ ss.length then none else some (ss ++ [⟨u, c, n⟩])) else if k = 2 then some (ss.filter fun y => y != ⟨u, c, n⟩) else none
 | _, _ => none
def after (ss : List Session) (c : Nat) (p : Packet) : Option (List Session) := match p.one 40 with
 | some [0, 0, 0, k] => if k = 7 ∨ k = 8 then some (ss.filter fun x => x.client != c) else after2 ss c k (p.one 1) (p.one 44)
 | _ => none
def spAfter (t : Adr) : Sp := fun vs H Q E => ∃ x ls p z zs, ∃ c : Nat, vs = [.ref x, nV c, .ref ls] ∧ PkAt t H x p z ∧ SesAt t H ls zs ∧
 (∀ ss, after (zs.map (·.2)) c p = some ss → ∀ l zs' H', H l = none → Same H H' → H' l = some (.lst (rfz zs')) → (∀ q ∈ zs', SeAt t H' q.1 q.2) → zs'.map (·.2) = ss → Q (.ref l) H') ∧ (after (zs.map (·.2)) c p = none → NoA t H E)
theorem sc_after : FnScope ["packet", "client", "sessions", "status", "session", "told"] ["packet", "client", "sessions"] (defScope (top 62)) := ⟨rfl, rfl, rfl, by decide +kernel, rfl, by decide +kernel, by decide +kernel⟩
theorem inV2 (k a b : Nat) : inV (nV k) [nV a, nV b] = decide (k = a ∨ k = b) := by
 show ((((a : Nat) : Int) == ((k : Nat) : Int)) || ((((b : Nat) : Int) == ((k : Nat) : Int)) || false)) = _
 rw [Bool.or_false]
 by_cases h1 : k = a
 ·subst h1
  simp
 ·by_cases h2 : k = b
  ·subst h2
   simp
  ·have e1 : (((a : Nat) : Int) == ((k : Nat) : Int)) = false := by simpa using fun e : ((a : Nat) : Int) = k => h1 (by omega)
   have e2 : (((b : Nat) : Int) == ((k : Nat) : Int)) = false := by simpa using fun e : ((b : Nat) : Int) = k => h2 (by omega)
   rw [e1, e2]
   simp [h1, h2]
theorem ok_sessions_after (T : Txt K mg t) : FnOk P w K mg base (CXF P w) 4 t.sessions_after.a t.sessions_after.fd ["packet", "client", "sessions"] (spAfter t) := by
 refine T.accounting.sessions_after.fn.okX sc_after (fun vs H Q E h => ?_) (fun cdv A outer s H vs Q E hr h => ?_)
 ·obtain ⟨x, ls, p, z, zs, c, rfl, _⟩ := h
  rfl
 ·obtain ⟨x, ls, p, z, zs, c, rfl, pk, hz, q1, q2⟩ := h
  obtain ⟨dx, ld, la, lm, h1, h2, h3, h4⟩ := pk.ex
  have ka := T.packets.cAttribute
  have kl := T.accounting.cSession
  refine ⟨_, (pss_cons (ps_set (i := 3) sc_after.nd rfl (Or.inl rfl) (callX (ok_read_status T) T.accounting.read_status hr passF (pa_cons (pv 0) pa_nil)))
   (pss_cons (ps_if (pt_cmpR op_in_seq (pv 3) (pe_tup (pa_cons (gN T "CLIENT_BEGINS" 7) (pa_cons (gN T "CLIENT_ENDS" 8) pa_nil))) rfl)
   (pss_one (ps_ret (pe_lc (own := [("session", 4)]) rfl sc_after.nd (pi_list (pv 2)) (blkOk_by (by kernel_rfl)) (fun _ _ _ _ _ => (pg_name (i := 4) sc_after.nd rfl (Or.inl rfl))) (fun _ _ _ _ _ => (pts_one (pt_cmpR o_ne (fldK K (pv 4) rfl) (pv 1) (nomark _)))) (fun _ _ _ _ _ => (pv 4)))))
   pss_nil)
   (pss_cons (ps_set (i := 5) sc_after.nd rfl (Or.inr rfl) (makeN T.accounting.cSession T.accounting.iSession (ok_iSession T) hr (pa_cons (pv 1) (pa_cons (fldK K (methX (pv 0) T.packets.cPacket.cl T.packets.packet_only (ok_packet_only T) hr passF (pa_cons (gN T "USER_NAME" 1) pa_nil)) rfl) (pa_cons (fldK K (methX (pv 0) T.packets.cPacket.cl T.packets.packet_only (ok_packet_only T) hr passF (pa_cons (gN T "SESSION_NAME" 44) pa_nil)) rfl) pa_nil)))))
   (pss_cons (ps_if (pt_cmpR op_in_seq (pv 3) (pe_tup (pa_cons (gN T "BEGINS" 1) (pa_cons (gN T "GOES_ON" 3) pa_nil))) rfl)
   (pss_one (ps_ret (callX (ok_sessions_with T) T.accounting.sessions_with hr passF (pa_cons (pv 2) (pa_cons (pv 5) pa_nil)))))
   pss_nil)
   (pss_cons (ps_if (pt_cmpR o_eq (pv 3) (gN T "ENDS" 2) (nomark _))
   (pss_one (ps_ret (pe_lc (own := [("session", 4)]) rfl sc_after.nd (pi_list (pv 2)) (blkOk_by (by kernel_rfl)) (fun _ _ _ _ _ => (pg_name (i := 4) sc_after.nd rfl (Or.inl rfl))) (fun _ _ _ _ _ => (pts_one (pt_not (ptK K (methN (pv 4) T.accounting.cSession.cl T.accounting.session_is_same (ok_session_is_same T) hr (pa_cons (pv 5) pa_nil)) (fun _ => rfl))))) (fun _ _ _ _ _ => (pv 4)))))
   pss_nil)
   (pss_one (ps_raise T.packets.cNoAnswer hr rfl))))))), ?_⟩
  refine ⟨_, rfl, x, p, z, rfl, pk, fun k hk H1 s1 => ?_, fun hn => q2 ?_⟩
  ·have ea : after (zs.map (·.2)) c p = if k = 7 ∨ k = 8 then some ((zs.map (·.2)).filter fun x => x.client != c) else after2 (zs.map (·.2)) c k (p.one 1) (p.one 44) := by
    unfold after
    rw [hk]
    rfl
   refine ⟨_, rfl, (by show 2 ≤ sizeLine; decide), fun p2 n2 => ?_⟩
   have s2 : Same H1 (upd H1 p2 (.tup [nV 7, nV 8])) := up n2
   have s02 := s1.trans s2
   refine ⟨p2, [nV 7, nV 8], rfl, .inr (SqT.of upd_same), rfl, rfl, _, rfl, ?_⟩
   show if (inV (nV k) [nV 7, nV 8]) = true then _ else _
   rw [inV2]
   refine ite2 (fun c1 => ?_) (fun c1 => ?_)
   ·have c1 := of_decide_eq_true c1
    rw [if_pos c1] at ea
    generalize upd H1 p2 (.tup [nV 7, nV 8]) = H2 at s2 s02 ⊢
    refine ⟨_, rfl, ls, rfl, ⟨_, SqL.of (s02 _ _ hz.li)⟩, fun D hD => ?_⟩
    refine lc_fmz (K := K) (z := zs) (r := fun q => V.ref q.1) (fun q => q.2.client != c) (fun q => V.ref q.1) (SqL.of (s02 _ _ hz.li)) hD (by have := hz.mo; omega) (fun u H' Rn Ry hu sH hq => ?_) fun H' s' l' => ?_
    ·obtain ⟨du, lu, ln, a1, a2, a3⟩ := (hz.se u hu).same (s02.trans sH)
     refine ⟨rfl, _, rfl, u.1, _, du, _, _, rfl, a1, kl.cl, na kl _, fsSession_client, _, rfl, _, _, rfl, rfl, _, rfl, ?_⟩
     have e : (u.2.client != c) = !decide (u.2.client = c) := rfl
     rw [e] at hq
     exact ite_b hq (fun h => ⟨_, rfl, h⟩) (fun h => h)
    ·refine q1 _ ea D (zs.filter fun q => q.2.client != c) H' (s02.free hD) (s02.trans s') l' (fun q hq => ((hz.se q (List.mem_filter.mp hq).1).same (s02.trans s'))) ?_
     rw [List.filter_map]
     rfl
   ·have c1 : ¬ (k = 7 ∨ k = 8) := fun z => c1 (decide_eq_true z)
    rw [if_neg c1] at ea
    generalize upd H1 p2 (.tup [nV 7, nV 8]) = H2 at s2 s02 ⊢
    refine ⟨_, rfl, _, rfl, x, dx, _, rfl, s02 _ _ h1, fsPacket_no "only", x, p, z, 1, rfl, pk.same s02, fun y1 hy1 H3 s3 => ?_, fun hn H' s' => q2 ?_ H' (s02.trans s')⟩
    ·have hm1 : y1 ∈ ofK z 1 := by rw [hy1]; exact List.mem_singleton.mpr rfl
     have s03 := s02.trans s3
     obtain ⟨⟨dy1, lv1, a1, a2⟩, _⟩ := (pk.same s03).in_ hm1
     have ho1 := one_of (pk.sole hy1)
     refine ⟨y1.1, _, dy1, _, _, rfl, a1, ka.cl, na ka _, fsAttribute_value, ?_⟩
     refine ⟨_, rfl, x, dx, _, rfl, s03 _ _ h1, fsPacket_no "only", x, p, z, 44, rfl, pk.same s03, fun y2 hy2 H4 s4 => ?_, fun hn H' s' => q2 ?_ H' (s03.trans s')⟩
     ·have hm2 : y2 ∈ ofK z 44 := by rw [hy2]; exact List.mem_singleton.mpr rfl
      have s04 := s03.trans s4
      obtain ⟨⟨dy2, lv2, b1, b2⟩, _⟩ := (pk.same s04).in_ hm2
      have ho2 := one_of (pk.sole hy2)
      refine ⟨y2.1, _, dy2, _, _, rfl, b1, ka.cl, na ka _, fsAttribute_value, ?_⟩
      have a2 := s4 _ _ a2
      generalize y1.2.2.2 = u at ho1 a2
      generalize y2.2.2.2 = n at ho2 b2
      rw [ho1, ho2] at ea
      intro sx sd nx nd ne
      refine ⟨sx, sd, _, _, _, rfl, upd_same, fun H5 st5 => ⟨rfl, ?_⟩⟩
      have s45 : Same H4 H5 := made_same nx nd st5
      have s05 := s04.trans s45
      have hse : SeAt t H5 sx ⟨u, c, n⟩ := ⟨sd, lv1, lv2, st5.1, s45 _ _ a2, s45 _ _ b2⟩
      refine ⟨_, rfl, (by show 2 ≤ sizeLine; decide), fun p6 n6 => ?_⟩
      have s6 : Same H5 (upd H5 p6 (.tup [nV 1, nV 3])) := up n6
      have s06 := s05.trans s6
      refine ⟨p6, [nV 1, nV 3], rfl, .inr (SqT.of upd_same), rfl, rfl, _, rfl, ?_⟩
      show if (inV (nV k) [nV 1, nV 3]) = true then _ else _
      rw [inV2]
      have hse6 := hse.same s6
      generalize upd H5 p6 (.tup [nV 1, nV 3]) = H6 at s6 s06 hse6 ⊢
      refine ite2 (fun c2 => ?_) (fun c2 => ?_)
      ·have c2 := of_decide_eq_true c2
       have ea : after (zs.map (·.2)) c p = (if (zs.map (·.2)).contains ⟨u, c, n⟩ = true then some (zs.map (·.2)) else if SESSIONS ≤ (zs.map (·.2)).length then none else some ((zs.map (·.2)) ++ [⟨u, c, n⟩])) := ea.trans (if_pos c2)
       refine ⟨_, rfl, _, rfl, ls, sx, zs, ⟨u, c, n⟩, rfl, hz.same s06, hse6, fun hc l H7 n7 s7 l7 => ?_, fun hc hl => ?_, fun hc hl l H7 n7 s7 l7 => ?_⟩
       ·rw [if_pos hc] at ea
        exact q1 _ ea l zs H7 (s06.free n7) (s06.trans s7) l7 (fun q hq => (hz.se q hq).same (s06.trans s7)) rfl
       ·rw [if_neg (by rw [hc]; decide), if_pos (by rw [List.length_map]; exact hl)] at ea
        exact fun H' s' => q2 ea H' (s06.trans s')
       ·rw [if_neg (by rw [hc]; decide), if_neg (by rw [List.length_map]; show ¬ 64 ≤ _; omega)] at ea
        refine q1 _ ea l (zs ++ [(sx, ⟨u, c, n⟩)]) H7 (s06.free n7) (s06.trans s7) l7 (fun q hq => ?_) ?_
        ·rcases List.mem_append.mp hq with hq | hq
         ·exact (hz.se q hq).same (s06.trans s7)
         ·rw [List.mem_singleton.mp hq]
          exact hse6.same s7
        ·rw [List.map_append]
         rfl
      ·have c2 : ¬ (k = 1 ∨ k = 3) := fun z => c2 (decide_eq_true z)
       have ea : after (zs.map (·.2)) c p = (if k = 2 then some ((zs.map (·.2)).filter fun y => y != ⟨u, c, n⟩) else none) := ea.trans (if_neg c2)
       refine ⟨_, rfl, k, 2, rfl, rfl, _, rfl, ite2 (fun c3 => ?_) (fun c3 => ?_)⟩
       ·have c3 := of_decide_eq_true c3
        rw [if_pos c3] at ea
        refine ⟨_, rfl, ls, rfl, ⟨_, SqL.of (s06 _ _ hz.li)⟩, fun D hD => ?_⟩
        refine lc_fmz (K := K) (z := zs) (r := fun q => V.ref q.1) (fun q => !(q.2 == ⟨u, c, n⟩)) (fun q => V.ref q.1) (SqL.of (s06 _ _ hz.li)) hD (by have := hz.mo; omega) (fun v H' Rn Ry hv sH hq => ?_) fun H' s' l' => ?_
        ·obtain ⟨du, lu, ln, d1, d2, d3⟩ := (hz.se v hv).same (s06.trans sH)
         refine ⟨rfl, _, rfl, v.1, du, _, rfl, d1, fsSession_no "is_same", _, rfl, v.1, sx, v.2, ⟨u, c, n⟩, rfl, ⟨du, lu, ln, d1, d2, d3⟩, hse6.same sH, _, rfl, ?_⟩
         exact ite_b hq (fun h => ⟨_, rfl, h⟩) (fun h => h)
        ·refine q1 _ ea D (zs.filter fun q => !(q.2 == ⟨u, c, n⟩)) H' (s06.free hD) (s06.trans s') l' (fun q hq => ((hz.se q (List.mem_filter.mp hq).1).same (s06.trans s'))) ?_
         rw [List.filter_map]
         rfl
       ·rw [if_neg (fun z => c3 (decide_eq_true z))] at ea
        exact q2 ea H6 s06
     ·rw [ea, one_no (pk.many hn)]
      cases p.one 1 <;> rfl
    ·rw [ea, one_no (pk.many hn)]
     rfl
  ·unfold after
   split
   ·rename_i k e
    exact absurd e (hn k)
   ·rfl
end
end Dw
namespace Dw
open PySem L2 Sn37
def NoW (t : Adr) (H : Hp) (E : XK) : Prop := ∀ H', Same H H' → E (.ref t.cWrongWords) none H'
section
variable {P : Program} {w : World} {K : PySem.W.Frag} {mg : Str → Option Value} {base : Heap} {t : Adr}
def spIUser (t : Adr) : Sp := fun vs H Q _ => ∃ x dx a, vs = [.ref x, a] ∧ H x = some (.ins t.cUser dx []) ∧ ∀ lt H', H lt = none → H' lt = some (.lst []) → Stored H H' x (.ins t.cUser dx (fsUser a .non (.ref lt))) → Q .non H'
theorem sc_iUser : FnScope ["self", "password"] ["self", "password"] (defScope (inClass (top 93) 0)) := ⟨rfl, rfl, rfl, by decide +kernel, rfl, by decide +kernel, by decide +kernel⟩
theorem free_of {H : Hp} {x a : Addr} {o u : HO} (hx : H x = some u) (n : upd H x o a = none) : H a = none := by
 by_cases e : a = x
 ·rw [e, upd_same] at n
  cases n
 ·rw [upd_ne e] at n
  exact n
theorem ok_iUser (T : Txt K mg t) : FnOk P w K mg base CX0 1 t.iUser.a t.iUser.fd ["self", "password"] (spIUser t) := by
 refine T.settings.iUser.fn.ok sc_iUser (fun vs H Q E h => ?_) (fun cdv A outer s H vs Q E hr h => ?_)
 ·obtain ⟨x, dx, a, rfl, _⟩ := h
  rfl
 ·obtain ⟨x, dx, a, rfl, hx, q⟩ := h
  have kl := T.settings.cUser
  refine ⟨_, (pss_cons (ps_fld (pv 0) (pv 1) rfl)
   (pss_cons (ps_fld (pv 0) pe_non rfl)
   (pss_one (ps_fld (pv 0) (pe_lst pa_nil) rfl)))), ?_⟩
  refine ⟨_, rfl, _, rfl, x, _, dx, [], rfl, hx, kl.cl, na kl _, by show 0 < 1000; decide, _, rfl, x, _, dx, _, rfl, upd_same, kl.cl, na kl _, by show 1 < 1000; decide, ?_⟩
  rw [upd_upd]
  refine ⟨(by show 0 ≤ sizeLine; decide), fun lt nlt => ?_⟩
  have ex := upd_same (H := H) (a := x) (o := .ins t.cUser dx (putF "limit" .non (putF "password" a [])))
  have xlt : x ≠ lt := fun e => by
   rw [← e, ex] at nlt
   cases nlt
  refine ⟨_, rfl, x, _, dx, _, rfl, (up nlt) _ _ ex, kl.cl, na kl _, ?_, ?_⟩
  ·exact Nat.lt_of_le_of_lt (length_putF _ _ _) (by show 1 + 1 < 1000; decide)
  ·refine q lt _ (free_of hx nlt) ?_ ⟨upd_same, fun b u e hb => ?_⟩
   ·rw [upd_ne (fun e => xlt e.symm), upd_same]
   ·rw [upd_ne hb]
    refine (up nlt) _ _ ?_
    rw [upd_ne hb]
    exact e
def spISettings (t : Adr) : Sp := fun vs H Q _ => ∃ x dx, vs = [.ref x] ∧ H x = some (.ins t.cSettings dx []) ∧ ∀ dc du H', H dc = none → H du = none → H' dc = some (.dK []) → H' du = some (.dT []) → Stored H H' x (.ins t.cSettings dx (fsSettings (.ref dc) (.ref du))) → Q .non H'
theorem sc_iSettings : FnScope ["self"] ["self"] (defScope (inClass (top 94) 0)) := ⟨rfl, rfl, rfl, by decide +kernel, rfl, by decide +kernel, by decide +kernel⟩
theorem ok_iSettings (T : Txt K mg t) : FnOk P w K mg base CX0 1 t.iSettings.a t.iSettings.fd ["self"] (spISettings t) := by
 refine T.settings.iSettings.fn.ok sc_iSettings (fun vs H Q E h => ?_) (fun cdv A outer s H vs Q E hr h => ?_)
 ·obtain ⟨x, dx, rfl, _⟩ := h
  rfl
 ·obtain ⟨x, dx, rfl, hx, q⟩ := h
  have kl := T.settings.cSettings
  refine ⟨_, (pss_cons (ps_fld (pv 0) pe_dnewK rfl)
   (pss_one (ps_fld (pv 0) pe_dnewT rfl))), ?_⟩
  intro dc ndc
  have s1 : Same H (upd H dc (.dK [])) := up ndc
  have xdc : x ≠ dc := ne_of_none hx ndc
  refine ⟨_, rfl, x, _, dx, [], rfl, s1 _ _ hx, kl.cl, na kl _, by show 0 < 1000; decide, ?_⟩
  intro du ndu
  have ex := upd_same (H := upd H dc (.dK [])) (a := x) (o := .ins t.cSettings dx (putF "secrets" (.ref dc) []))
  have xdu : x ≠ du := fun e => by
   rw [← e, ex] at ndu
   cases ndu
  have ndu1 : upd H dc (.dK []) du = none := free_of (s1 _ _ hx) ndu
  have dcu : dc ≠ du := fun e => by
   rw [← e, upd_same] at ndu1
   cases ndu1
  refine ⟨_, rfl, x, _, dx, _, rfl, (up ndu) _ _ ex, kl.cl, na kl _, by show 1 < 1000; decide, ?_⟩
  refine q dc du _ ndc (s1.free ndu1) ?_ ?_ ⟨upd_same, fun b u e hb => ?_⟩
  ·rw [upd_ne (fun e => xdc e.symm), upd_ne dcu, upd_ne (fun e => xdc e.symm), upd_same]
  ·rw [upd_ne (fun e => xdu e.symm), upd_same]
  ·rw [upd_ne hb]
   refine (up ndu) _ _ ?_
   rw [upd_ne hb]
   exact s1 _ _ e
def spFour : Sp := fun vs H Q _ => ∃ n : Nat, vs = [nV n] ∧ n < 4294967296 ∧ NewL H (high 4 n) Q
theorem sc_four : FnScope ["number"] ["number"] (defScope (top 103)) := ⟨rfl, rfl, rfl, by decide +kernel, rfl, by decide +kernel, by decide +kernel⟩
theorem ok_four_bytes (T : Txt K mg t) : FnOk P w K mg base CX0 1 t.four_bytes.a t.four_bytes.fd ["number"] spFour := by
 refine T.settings.four_bytes.fn.ok sc_four (fun vs H Q E h => ?_) (fun cdv A outer s H vs Q E hr h => ?_)
 ·obtain ⟨n, rfl, _⟩ := h
  rfl
 ·obtain ⟨n, rfl, hn, q⟩ := h
  refine ⟨_, (pss_one (ps_ret (pe_lst (pa_cons (pe_op o_shr (pv 0) pe_int) (pa_cons (pe_op o_and (pe_op o_shr (pv 0) pe_int) pe_int) (pa_cons (pe_op o_and (pe_op o_shr (pv 0) pe_int) pe_int) (pa_cons (pe_op o_and (pv 0) pe_int) pa_nil))))))), ?_⟩
  refine ⟨_, rfl, n, 24, rfl, rfl, _, rfl, n, 16, rfl, rfl, _, 255, rfl, rfl, _, rfl, n, 8, rfl, rfl, _, 255, rfl, rfl, _, rfl, n, 255, rfl, rfl, (by show 4 ≤ sizeLine; decide), fun p1 n1 => ?_⟩
  rw [high4_code hn] at q
  exact q p1 _ n1 (up n1) upd_same
def spNum (t : Adr) : Sp := fun vs H Q E => ∃ a, ∃ (d : List Nat) (most : Nat), vs = [.ref a, nV most] ∧ Ls H a d ∧ (∀ n, number most d = some n → Q (nV n) H) ∧ (number most d = none → NoW t H E)
theorem sc_num : FnScope ["word", "most", "number", "sign"] ["word", "most"] (defScope (top 102)) := ⟨rfl, rfl, rfl, by decide +kernel, rfl, by decide +kernel, by decide +kernel⟩
theorem ok_read_number (T : Txt K mg t) : FnOk P w K mg base (CXF P w) 2 t.read_number.a t.read_number.fd ["word", "most"] (spNum t) := by
 refine T.settings.read_number.fn.okX sc_num (fun vs H Q E h => ?_) (fun cdv A outer s H vs Q E hr h => ?_)
 ·obtain ⟨a, d, most, rfl, _⟩ := h
  rfl
 ·obtain ⟨a, d, most, rfl, hd, q1, q2⟩ := h
  refine ⟨_, (pss_cons (ps_if (pt_not (pt_chain o_le o_le pe_int (pLen T (pv 0)) (gN T "MOST_DIGITS" 10)))
   (pss_one (ps_raise T.settings.cWrongWords hr rfl))
   pss_nil)
   (pss_cons (ps_set (i := 2) sc_num.nd rfl (Or.inl rfl) pe_int)
   (pss_cons (ps_for own_pass rfl (pi_list (pv 0)) (pg_name (i := 3) sc_num.nd rfl (Or.inl rfl))
   (pss_cons (ps_if (pt_not (pt_chain o_le o_le (gN T "ZERO" 48) (pv 3) (gN T "NINE" 57)))
    (pss_one (ps_raise T.settings.cWrongWords hr rfl))
    pss_nil)
    (pss_one (ps_set (i := 2) sc_num.nd rfl (Or.inl rfl) (pe_op o_sub (pe_op o_add (pe_op o_mul pe_int (pv 2)) (pv 3)) (gN T "ZERO" 48))))))
   (pss_cons (ps_if (pt_cmpR o_gt (pv 2) (pv 1) (nomark _))
   (pss_one (ps_raise T.settings.cWrongWords hr rfl))
   pss_nil)
   (pss_one (ps_ret (pv 2))))))), ?_⟩
  rw [number_eq] at q2
  have bad : ¬ (d ≠ [] ∧ d.length ≤ 10 ∧ d.all digit = true ∧ numV d ≤ most) → NoW t H E := fun h => q2 (if_neg h)
  have hne : d ≠ [] ↔ 1 ≤ d.length := by
   cases d with
   | nil => simp
   | cons a r => simp
  refine ⟨_, rfl, a, d, rfl, SqL.of hd, 1, d.length, rfl, rfl, _, rfl, ite2 (fun c1 => ?_) (fun c1 => ?_)⟩
  rotate_left
  ·have c1 : ¬ 1 ≤ d.length := fun z => c1 (decide_eq_true z)
   exact ⟨_, rfl, ite2 (fun _ => bad (fun h => c1 (hne.mp h.1)) H (Same.refl H)) (fun z => absurd rfl z)⟩
  have c1 := of_decide_eq_true c1
  refine ⟨d.length, 10, rfl, rfl, _, rfl, ite2 (fun c2 => ?_) (fun c2 => ?_)⟩
  ·have c2 : ¬ d.length ≤ 10 := by simpa using c2
   exact bad (fun h => c2 h.2.1) H (Same.refl H)
  have c2 : d.length ≤ 10 := by simpa using c2
  refine ⟨_, rfl, a, rfl, ⟨_, SqL.of hd⟩, for_list (xs := nb d) (fun i σ H1 => H1 = H ∧ (d.take i).all digit = true ∧ ∃ o3, σ = [some (.ref a), some (nV most), some (nV (numV (d.take i))), o3]) ⟨rfl, rfl, _, rfl⟩ ?_ ?_ ?_⟩
  ·rintro i σ H1 _ ⟨rfl, _⟩
   exact SqL.of hd
  ·rintro i y σ H1 hy ⟨rfl, hdg, o3, rfl⟩
   obtain ⟨c, hc, rfl⟩ : ∃ c, d[i]? = some c ∧ y = nV c := by
    rw [List.getElem?_map] at hy
    cases e : d[i]? with
    | none => rw [e] at hy; cases hy
    | some n => rw [e] at hy; exact ⟨n, rfl, (Option.some.inj hy).symm⟩
   have notdig : ¬ (48 ≤ c ∧ c ≤ 57) → NoW t H1 E := fun h => bad (fun g => h (by
    have := List.all_eq_true.mp g.2.2.1 c (List.mem_of_getElem? hc)
    simpa [digit] using this))
   refine ⟨_, rfl, 48, c, rfl, rfl, _, rfl, ite2 (fun c3 => ?_) (fun c3 => ?_)⟩
   rotate_left
   ·have c3 : ¬ 48 ≤ c := fun z => c3 (decide_eq_true z)
    exact ⟨_, rfl, ite2 (fun _ => notdig (fun h => c3 h.1) H1 (Same.refl H1)) (fun z => absurd rfl z)⟩
   have c3 := of_decide_eq_true c3
   refine ⟨c, 57, rfl, rfl, _, rfl, ite2 (fun c4 => ?_) (fun c4 => ?_)⟩
   ·have c4 : ¬ c ≤ 57 := by simpa using c4
    exact notdig (fun h => c4 h.2) H1 (Same.refl H1)
   have c4 : c ≤ 57 := by simpa using c4
   refine ⟨_, rfl, 10, _, rfl, rfl, .inl (by decide), _, rfl, _, c, rfl, rfl, _, 48, rfl, rfl, (by show 48 ≤ 10 * _ + c; omega), rfl, ?_, some (nV c), ?_⟩
   ·rw [List.take_add_one, hc, List.all_append, hdg]
    simp [digit, c3, c4]
   ·rw [List.take_add_one, hc]
    show _ = [some (V.ref a), some (nV most), some (nV (numV (d.take i ++ [c]))), _]
    rw [numV_snoc, show 10 * numV (d.take i) + (c - 48) = 10 * numV (d.take i) + c - 48 by omega]
    rfl
  ·rintro σ H1 ⟨rfl, hdg, o3, rfl⟩
   rw [nb_length, List.take_length] at hdg
   rw [nb_length, List.take_length]
   refine ⟨_, rfl, _, rfl, _, most, rfl, rfl, _, rfl, ite2 (fun c5 => ?_) (fun c5 => ?_)⟩
   ·have c5 := of_decide_eq_true c5
    exact bad (fun h => by have := h.2.2.2; omega) H1 (Same.refl H1)
   ·have c5 : ¬ most < numV d := fun z => c5 (decide_eq_true z)
    refine ⟨_, rfl, q1 _ ?_⟩
    rw [number_eq, if_pos ⟨hne.mpr c1, c2, hdg, by omega⟩]
end
end Dw
namespace Dw
open PySem L2 Sn37
def toldOf (k v : Bytes) : Option (Nat × Bytes) :=
 if k = ascii "service" then (number (W - 1) v).map fun n => (6, high 4 n)
 else if k = ascii "timeout" then (number (W - 1) v).map fun n => (27, high 4 n)
 else if k = ascii "idle" then (number (W - 1) v).map fun n => (28, high 4 n)
 else if k = ascii "message" then (if v = [] ∨ 200 < v.length then none else some (18, v))
 else none
theorem told_none {u : User} {wd : Bytes} (h : ¬ 61 ∈ wd) : told u wd = none := by
 unfold told
 exact if_pos ((label_full wd).mpr h)
theorem told_limit {u : User} {wd : Bytes} (h : 61 ∈ wd) (hk : labelOf wd = ascii "limit") : told u wd = if u.limit.isSome = true then none else (number 64 (wd.drop ((labelOf wd).length + 1))).map fun n => { u with limit := some n } := by
 unfold told
 have h1 : ¬ (labelOf wd).length = wd.length := fun e => (label_full wd).mp e h
 show (if (labelOf wd).length = wd.length then _ else if labelOf wd = ascii "limit" then _ else _) = _
 rw [if_neg h1, if_pos hk]
 rfl
theorem told_rest {u : User} {wd : Bytes} (h : 61 ∈ wd) (hk : labelOf wd ≠ ascii "limit") : told u wd = (toldOf (labelOf wd) (wd.drop ((labelOf wd).length + 1))).map fun a => { u with told := u.told ++ [a] } := by
 unfold told toldOf
 have h1 : ¬ (labelOf wd).length = wd.length := fun e => (label_full wd).mp e h
 dsimp only
 rw [show wd.takeWhile (fun c => c != 61) = labelOf wd from rfl, if_neg h1, if_neg hk]
 generalize wd.drop ((labelOf wd).length + 1) = v
 by_cases h2 : labelOf wd = ascii "service"
 ·rw [if_pos h2, if_pos h2, Option.map_map]
  rfl
 rw [if_neg h2, if_neg h2]
 by_cases h3 : labelOf wd = ascii "timeout"
 ·rw [if_pos h3, if_pos h3, Option.map_map]
  rfl
 rw [if_neg h3, if_neg h3]
 by_cases h4 : labelOf wd = ascii "idle"
 ·rw [if_pos h4, if_pos h4, Option.map_map]
  rfl
 rw [if_neg h4, if_neg h4]
 by_cases h5 : labelOf wd = ascii "message"
 ·rw [if_pos h5, if_pos h5]
  by_cases h6 : v = [] ∨ 200 < v.length
  ·rw [if_pos h6, if_pos h6]
   rfl
  ·rw [if_neg h6, if_neg h6]
   rfl
 rw [if_neg h5, if_neg h5]
 rfl
def nwL (i : Nat) : Bytes := if i = 0 then ascii "service" else if i = 1 then ascii "timeout" else ascii "idle"
def nwK (i : Nat) : Nat := if i = 0 then 6 else if i = 1 then 27 else 28
def nwS (i : Nat) : Str := if i = 0 then "service" else if i = 1 then "timeout" else "idle"
theorem nw_str : ∀ i : Fin 3, (nwS i.1).cps.toList = nwL i.1 ∧ (nwS i.1).cps.size ≤ 100000 := by decide +kernel
theorem nw_ne : ascii "message" ≠ ascii "service" ∧ ascii "message" ≠ ascii "timeout" ∧ ascii "message" ≠ ascii "idle" ∧ ascii "timeout" ≠ ascii "service" ∧ ascii "idle" ≠ ascii "service" ∧ ascii "idle" ≠ ascii "timeout" := by decide +kernel
theorem toldOf_msg (v : Bytes) : toldOf (ascii "message") v = if v = [] ∨ 200 < v.length then none else some (18, v) := by
 unfold toldOf
 rw [if_neg nw_ne.1, if_neg nw_ne.2.1, if_neg nw_ne.2.2.1, if_pos rfl]
theorem toldOf_nw {i : Nat} (hi : i < 3) (v : Bytes) : toldOf (nwL i) v = (number (W - 1) v).map fun n => (nwK i, high 4 n) := by
 unfold toldOf
 match i, hi with
 | 0, _ =>
  show (if ascii "service" = ascii "service" then _ else _) = _
  rw [if_pos rfl]; rfl
 | 1, _ =>
  show (if ascii "timeout" = ascii "service" then _ else if ascii "timeout" = ascii "timeout" then _ else _) = _
  rw [if_neg nw_ne.2.2.2.1, if_pos rfl]; rfl
 | 2, _ =>
  show (if ascii "idle" = ascii "service" then _ else if ascii "idle" = ascii "timeout" then _ else if ascii "idle" = ascii "idle" then _ else _) = _
  rw [if_neg nw_ne.2.2.2.2.1, if_neg nw_ne.2.2.2.2.2, if_pos rfl]; rfl
theorem toldOf_no {k v : Bytes} (h : ∀ j, j < 3 → k ≠ nwL j) (hm : k ≠ ascii "message") : toldOf k v = none := by
 unfold toldOf
 have h0 : k ≠ ascii "service" := h 0 (by decide)
 have h1 : k ≠ ascii "timeout" := h 1 (by decide)
 have h2 : k ≠ ascii "idle" := h 2 (by decide)
 rw [if_neg h0, if_neg h1, if_neg h2, if_neg hm]
theorem toldOf_len {k v : Bytes} {a : Nat × Bytes} (h : toldOf k v = some a) : a.2.length ≤ 200 ∧ a.1 < 256 ∧ ((∀ c ∈ v, c < 256) → ∀ c ∈ a.2, c < 256) := by
 have h4 : ∀ n, (high 4 n).length ≤ 200 ∧ ∀ c ∈ high 4 n, c < 256 := by
  intro n
  rw [high4]
  refine ⟨by show 4 ≤ 200; decide, fun c hc => ?_⟩
  simp only [List.mem_cons, List.not_mem_nil, or_false] at hc
  rcases hc with rfl | rfl | rfl | rfl <;> exact Nat.mod_lt _ (by decide)
 have nm : ∀ j, j < 256 → (number (W - 1) v).map (fun n => (j, high 4 n)) = some a → a.2.length ≤ 200 ∧ a.1 < 256 ∧ ((∀ c ∈ v, c < 256) → ∀ c ∈ a.2, c < 256) := by
  intro j hj e
  obtain ⟨n, _, e2⟩ := Option.map_eq_some_iff.mp e
  rw [← e2]
  exact ⟨(h4 n).1, hj, fun _ => (h4 n).2⟩
 unfold toldOf at h
 split at h
 ·exact nm 6 (by decide) h
 split at h
 ·exact nm 27 (by decide) h
 split at h
 ·exact nm 28 (by decide) h
 split at h
 ·split at h
  ·cases h
  ·rename_i hn
   have e := (Option.some.inj h).symm
   subst e
   exact ⟨by show v.length ≤ 200; omega, by show 18 < 256; decide, fun hv => hv⟩
 ·cases h
section
variable {P : Program} {w : World} {K : PySem.W.Frag} {mg : Str → Option Value} {base : Heap} {t : Adr}
def nwA (t : Adr) (i : Nat) : Addr := if i = 0 then t.aNW0 else if i = 1 then t.aNW1 else t.aNW2
theorem nw_at (T : Txt K mg t) {i : Nat} (hi : i < 3) (H : Hp) : SqT K H (nwA t i) [.str (nwS i), nV (nwK i)] := by
 match i, hi with
 | 0, _ => exact T.settings.tNW0 H
 | 1, _ => exact T.settings.tNW1 H
 | 2, _ => exact T.settings.tNW2 H
def spTold (t : Adr) : Sp := fun vs H Q E => ∃ lk lv, ∃ k v : List Nat, vs = [.ref lk, .ref lv] ∧ Ls H lk k ∧ Ls H lv v ∧ (∀ a, toldOf k v = some a → NewL H (a.1 :: (a.2.length + 2) :: a.2) Q) ∧ (toldOf k v = none → NoW t H E)
theorem sc_told : FnScope ["label", "value", "known", "kind"] ["label", "value"] (defScope (top 101)) := ⟨rfl, rfl, rfl, by decide +kernel, rfl, by decide +kernel, by decide +kernel⟩
theorem ok_read_told (T : Txt K mg t) : FnOk P w K mg base (CXF P w) 3 t.read_told.a t.read_told.fd ["label", "value"] (spTold t) := by
 refine T.settings.read_told.fn.okX sc_told (fun vs H Q E h => ?_) (fun cdv A outer s H vs Q E hr h => ?_)
 ·obtain ⟨lk, lv, k, v, rfl, _⟩ := h
  rfl
 ·obtain ⟨lk, lv, k, v, rfl, hk, hv, q1, q2⟩ := h
  refine ⟨_, (pss_cons (ps_if (pt_cmpR (o_eqN K hr.units) (pv 0) (callN (ok_codes T) T.signs.codes hr (pa_cons pe_str pa_nil)) (nomark _))
   (pss_cons (ps_if (pt_not (pt_chain o_le o_le pe_int (pLen T (pv 1)) (gN T "MOST_MESSAGE" 200)))
    (pss_one (ps_raise T.settings.cWrongWords hr rfl))
    pss_nil)
    (pss_one (ps_ret (callN (ok_attribute_bytes T) T.packets.attribute_bytes hr (pa_cons (gN T "MESSAGE" 18) (pa_cons (pv 1) pa_nil))))))
   pss_nil)
   (pss_cons (ps_for own_pass rfl (pi_tup (gTp T.settings.NUMBER_WORDS)) (pgTupK (n := 2) K rfl (pgs_cons (pg_name (i := 2) sc_told.nd rfl (Or.inl rfl)) (pgs_cons (pg_name (i := 3) sc_told.nd rfl (Or.inl rfl)) pgs_nil)))
   (pss_one (ps_if (pt_cmpR (o_eqN K hr.units) (pv 0) (callN (ok_codes T) T.signs.codes hr (pa_cons (pv 2) pa_nil)) (nomark _))
    (pss_one (ps_ret (callN (ok_attribute_bytes T) T.packets.attribute_bytes hr (pa_cons (pv 3) (pa_cons (callN (ok_four_bytes T) T.settings.four_bytes hr (pa_cons (callX (ok_read_number T) T.settings.read_number hr passF (pa_cons (pv 1) (pa_cons (gN T "MOST_NUMBER" 4294967295) pa_nil))) pa_nil)) pa_nil)))))
    pss_nil)))
   (pss_one (ps_raise T.settings.cWrongWords hr rfl)))), ?_⟩
  refine ⟨_, rfl, _, rfl, by decide, fun p1 H1 n1 s1 l1 => ?_⟩
  have l1 : Ls H1 p1 (ascii "message") := l1
  refine ⟨lk, p1, k, _, rfl, rfl, SqL.of (s1 _ _ hk), SqL.of l1, _, rfl, ite2 (fun c => ?_) (fun c => ?_)⟩
  ·have c := of_decide_eq_true c
   rw [c, toldOf_msg] at q1 q2
   have hne : v = [] ↔ ¬ 1 ≤ v.length := by
    cases v with
    | nil => simp
    | cons a r => simp
   refine ⟨_, rfl, lv, v, rfl, SqL.of (s1 _ _ hv), 1, v.length, rfl, rfl, _, rfl, ite2 (fun c1 => ?_) (fun c1 => ?_)⟩
   rotate_left
   ·have c1 : ¬ 1 ≤ v.length := fun z => c1 (decide_eq_true z)
    exact ⟨_, rfl, ite2 (fun _ => q2 (if_pos (.inl (hne.mpr c1))) H1 s1) (fun z => absurd rfl z)⟩
   have c1 := of_decide_eq_true c1
   refine ⟨v.length, 200, rfl, rfl, _, rfl, ite2 (fun c2 => ?_) (fun c2 => ?_)⟩
   ·have c2 : ¬ v.length ≤ 200 := by simpa using c2
    exact q2 (if_pos (.inr (by omega))) H1 s1
   have c2 : v.length ≤ 200 := by simpa using c2
   refine ⟨_, rfl, lv, 18, v, rfl, s1 _ _ hv, by omega, fun p2 H2 n2 s2 l2 => ?_⟩
   exact q1 (18, v) (if_neg (fun h => by rcases h with h | h; exact hne.mp h c1; omega)) p2 H2 (s1.free n2) (s1.trans s2) l2
  ·have c : k ≠ ascii "message" := fun z => c (decide_eq_true z)
   refine ⟨t.aNUMBER_WORDS, rfl, ⟨_, T.settings.tNUMBER_WORDS _⟩, for_tup (xs := [.ref t.aNW0, .ref t.aNW1, .ref t.aNW2]) (fun i σ H2 => Same H H2 ∧ (∀ j, j < i → k ≠ nwL j) ∧ ∃ o2 o3, σ = [some (.ref lk), some (.ref lv), o2, o3]) ⟨s1, fun j hj => absurd hj (Nat.not_lt_zero j), _, _, rfl⟩ (fun i σ H2 _ _ => T.settings.tNUMBER_WORDS H2) ?_ ?_⟩
   ·rintro i y σ H2 hy ⟨s2, hne, o2, o3, rfl⟩
    have hi : i < 3 := (List.getElem?_eq_some_iff.mp hy).1
    have ey : y = .ref (nwA t i) := by
     match i, hi, hy with
     | 0, _, hy => exact (Option.some.inj hy).symm
     | 1, _, hy => exact (Option.some.inj hy).symm
     | 2, _, hy => exact (Option.some.inj hy).symm
    subst ey
    obtain ⟨es, ez⟩ := nw_str ⟨i, hi⟩
    refine ⟨nwA t i, _, rfl, nw_at T hi H2, rfl, _, _, rfl, _, _, rfl, rfl, _, rfl, _, rfl, nwS i, rfl, ez, fun p3 H3 n3 s3 l3 => ?_⟩
    have l3 : Ls H3 p3 (nwL i) := by rw [← es]; exact l3
    have s03 := s2.trans s3
    refine ⟨lk, p3, k, _, rfl, rfl, SqL.of (s03 _ _ hk), SqL.of l3, _, rfl, ite2 (fun c1 => ?_) (fun c1 => ?_)⟩
    ·have c1 := of_decide_eq_true c1
     rw [c1, toldOf_nw hi] at q1 q2
     refine ⟨_, rfl, _, rfl, lv, v, 4294967295, rfl, s03 _ _ hv, fun n hn => ?_, fun hn H' s' => q2 (by rw [show W - 1 = 4294967295 from rfl, hn]; rfl) H' (s03.trans s')⟩
     have hnl := number_le hn
     refine ⟨n, rfl, by omega, fun p4 H4 n4 s4 l4 => ?_⟩
     have h4l : (high 4 n).length = 4 := by rw [high4]; rfl
     refine ⟨p4, nwK i, _, rfl, l4, by rw [h4l]; decide, fun p5 H5 n5 s5 l5 => ?_⟩
     have s05 := (s03.trans s4).trans s5
     exact q1 (nwK i, high 4 n) (by rw [show W - 1 = 4294967295 from rfl, hn]; rfl) p5 H5 ((s03.trans s4).free n5) s05 l5
    ·have c1 : k ≠ nwL i := fun z => c1 (decide_eq_true z)
     refine ⟨s03, fun j hj => ?_, _, _, rfl⟩
     by_cases e : j = i
     ·rw [e]; exact c1
     ·exact hne j (by omega)
   ·rintro σ H2 ⟨s2, hne, o2, o3, rfl⟩
    exact q2 (toldOf_no hne c) H2 s2
theorem flat_nb (l : List Nat) : (nb l).all flatV = true := by
 rw [List.all_eq_true]
 intro x hx
 obtain ⟨n, _, rfl⟩ := List.mem_map.mp hx
 rfl
theorem inV_nb (n : Nat) (l : List Nat) : inV (nV n) (nb l) = decide (n ∈ l) := by
 unfold inV
 by_cases h : n ∈ l
 ·rw [decide_eq_true h, List.any_eq_true]
  exact ⟨nV n, List.mem_map_of_mem h, by show (((n : Nat) : Int) == ((n : Nat) : Int)) = true; simp⟩
 ·rw [decide_eq_false h, List.any_eq_false]
  intro x hx
  obtain ⟨m, hm, rfl⟩ := List.mem_map.mp hx
  intro e
  have e : (((m : Nat) : Int) == ((n : Nat) : Int)) = true := e
  have e : ((m : Nat) : Int) = n := by simpa using e
  exact h (by rw [show n = m by omega]; exact hm)
def spWord (t : Adr) : Sp := fun vs H Q E => ∃ x lw dx lp lt, ∃ (u : User) (wd : List Nat), vs = [.ref x, .ref lw] ∧ H x = some (.ins t.cUser dx (fsUser (.ref lp) (limV u.limit) (.ref lt))) ∧ Ls H lt (attrBytes u.told) ∧ (attrBytes u.told).length ≤ 50000 ∧ Ls H lw wd ∧
 (∀ u', told u wd = some u' → ∀ H', Off2 x lt H H' → H' x = some (.ins t.cUser dx (fsUser (.ref lp) (limV u'.limit) (.ref lt))) → Ls H' lt (attrBytes u'.told) → Q .non H') ∧ (told u wd = none → NoW t H E)
theorem sc_word : FnScope ["user", "word", "place", "label", "value"] ["user", "word"] (defScope (top 100)) := ⟨rfl, rfl, rfl, by decide +kernel, rfl, by decide +kernel, by decide +kernel⟩
theorem ok_take_user_word (T : Txt K mg t) : FnOk P w K mg base (CXF P w) 4 t.take_user_word.a t.take_user_word.fd ["user", "word"] (spWord t) := by
 refine T.settings.take_user_word.fn.okX sc_word (fun vs H Q E h => ?_) (fun cdv A outer s H vs Q E hr h => ?_)
 ·obtain ⟨x, lw, dx, lp, lt, u, wd, rfl, _⟩ := h
  rfl
 ·obtain ⟨x, lw, dx, lp, lt, u, wd, rfl, hx, ht, htl, hw, q1, q2⟩ := h
  have ku := T.settings.cUser
  refine ⟨_, (pss_cons (ps_if (pt_cmpR op_notIn_seq (gN T "EQUALS" 61) (pv 1) rfl)
   (pss_one (ps_raise T.settings.cWrongWords hr rfl))
   pss_nil)
   (pss_cons (ps_set (i := 2) sc_word.nd rfl (Or.inl rfl) (pe_bm PySem.F.plainAttrs_list PySem.F.slot_list_index PySem.F.type_list_index mt_index (pv 1) (pa_cons (gN T "EQUALS" 61) pa_nil)))
   (pss_cons (ps_set (i := 3) sc_word.nd rfl (Or.inl rfl) (pe_slice (sl_n K) (pv 1) po_none (po_some (pv 2))))
   (pss_cons (ps_set (i := 4) sc_word.nd rfl (Or.inl rfl) (pe_slice (sl_n K) (pv 1) (po_some (pe_op o_add (pv 2) pe_int)) po_none))
   (pss_one (ps_if (pt_cmpR (o_eqN K hr.units) (pv 3) (callN (ok_codes T) T.signs.codes hr (pa_cons pe_str pa_nil)) (nomark _))
   (pss_cons (ps_if (pt_cmpR op_notN (fldK K (pv 0) rfl) pe_non (nomark _))
    (pss_one (ps_raise T.settings.cWrongWords hr rfl))
    pss_nil)
    (pss_one (ps_fld (pv 0) (callX (ok_read_number T) T.settings.read_number hr passF (pa_cons (pv 4) (pa_cons (gN T "MOST_LIMIT" 64) pa_nil))) rfl)))
   (pss_one (ps_expr (pe_bm PySem.F.plainAttrs_list PySem.F.slot_list_extend PySem.F.type_list_extend mt_extend (fldK K (pv 0) rfl) (pa_cons (callX (ok_read_told T) T.settings.read_told hr passF (pa_cons (pv 3) (pa_cons (pv 4) pa_nil))) pa_nil)))))))))), ?_⟩
  refine ⟨_, rfl, lw, nb wd, rfl, .inl (SqL.of hw), rfl, flat_nb wd, _, rfl, ?_⟩
  show if (!inV (nV 61) (nb wd)) = true then _ else _
  rw [inV_nb]
  refine ite2 (fun c => ?_) (fun c => ?_)
  ·have c : ¬ 61 ∈ wd := by simpa using c
   exact q2 (told_none c) H (Same.refl H)
  have c : 61 ∈ wd := by simpa using c
  obtain ⟨f1, f2⟩ := label_first wd c
  have et := label_take wd
  have hlim := fun h => told_limit (u := u) c h
  have hres := fun h => told_rest (u := u) c h
  refine ⟨_, rfl, .inl ⟨rfl, _, SqL.of hw⟩, lw, nb wd, nV 61, (labelOf wd).length, nV 61, rfl, rfl, SqL.of hw, rfl, flat_nb wd, ?_, ?_, ?_, ?_⟩
  ·rw [List.getElem?_map, f1]
   rfl
  ·show (((61 : Nat) : Int) == ((61 : Nat) : Int)) = true
   rfl
  ·intro m z' hm hz
   rw [List.getElem?_map] at hz
   cases e : wd[m]? with
   | none => rw [e] at hz; cases hz
   | some c' =>
    rw [e] at hz
    have hz := (Option.some.inj hz).symm
    subst hz
    have := f2 m hm c' e
    show (((c' : Nat) : Int) == ((61 : Nat) : Int)) = false
    simpa using fun e : ((c' : Nat) : Int) = 61 => this (by omega)
  ·refine ⟨_, rfl, _, rfl, _, rfl, lw, wd, rfl, SqL.of hw, fun p1 H1 n1 s1 l1 => ?_⟩
   rw [cutN_to, ← et] at l1
   refine ⟨_, rfl, _, rfl, (labelOf wd).length, 1, rfl, rfl, _, rfl, lw, wd, rfl, SqL.of (s1 _ _ hw), fun p2 H2 n2 s2 l2 => ?_⟩
   rw [cutN_from] at l2
   have s02 := s1.trans s2
   generalize wd.drop ((labelOf wd).length + 1) = v at l2 hlim hres
   refine ⟨_, rfl, _, rfl, by decide, fun p3 H3 n3 s3 l3 => ?_⟩
   have l3 : Ls H3 p3 (ascii "limit") := l3
   have s03 := s02.trans s3
   have offs : ∀ {H' : Hp} {o : HO}, Same H H' → Off2 x lt H (upd H' x o) := fun sH b o' n1 n2 e => by
    rw [upd_ne n1]
    exact sH _ _ e
   refine ⟨p1, p3, _, _, rfl, rfl, SqL.of (s3 _ _ (s2 _ _ l1)), SqL.of l3, _, rfl, ite2 (fun c2 => ?_) (fun c2 => ?_)⟩
   ·have c2 := of_decide_eq_true c2
    have hlim := hlim c2
    rw [hlim] at q1 q2
    refine ⟨_, rfl, x, _, dx, _, _, rfl, s03 _ _ hx, ku.cl, na ku _, fsUser_limit, rfl, _, rfl, ite2 (fun c3 => ?_) (fun c3 => ?_)⟩
    ·refine q2 (if_pos ?_) H3 s03
     cases e : u.limit with
     | none => rw [e] at c3; cases c3
     | some n => rfl
    ·have e : u.limit = none := by
      cases e : u.limit with
      | none => rfl
      | some n => rw [e] at c3; exact absurd rfl c3
     rw [e, if_neg (by decide)] at q1 q2
     refine ⟨_, rfl, p2, v, 64, rfl, s3 _ _ l2, fun n hn => ?_, fun hn H' s' => q2 (by rw [hn]; rfl) H' (s03.trans s')⟩
     refine ⟨_, rfl, x, _, dx, _, rfl, s03 _ _ hx, ku.cl, na ku _, fsUser_len, ?_⟩
     refine q1 _ (by rw [hn]; rfl) _ (offs s03) ?_ ?_
     ·rw [upd_same, fsUser_put_limit]
      rfl
     ·exact ls_upd (s03 _ _ ht) (s03 _ _ hx)
   ·have c2 : labelOf wd ≠ ascii "limit" := fun z => c2 (decide_eq_true z)
    have hres := hres c2
    rw [hres] at q1 q2
    have l1' := s3 _ _ (s2 _ _ l1)
    refine ⟨_, rfl, x, _, dx, _, _, rfl, s03 _ _ hx, ku.cl, na ku _, fsUser_told, .inl ⟨rfl, _, SqL.of (s03 _ _ ht)⟩, _, rfl, _, rfl, p1, p2, _, v, rfl, l1', s3 _ _ l2, fun a ha p4 H4 n4 s4 l4 => ?_, fun hn H' s' => q2 (by rw [hn]; rfl) H' (s03.trans s')⟩
    have s04 := s03.trans s4
    refine ⟨lt, p4, _, _, rfl, rfl, s04 _ _ ht, l4, ?_, ?_⟩
    ·have := (toldOf_len ha).1
     rw [nb_length, nb_length, List.length_cons, List.length_cons]
     exact Nat.le_trans (show _ ≤ 100000 by omega) (by decide)
    ·refine q1 _ (by rw [ha]; rfl) _ ?_ ?_ ?_
     ·intro b o' n1 n2 e
      rw [upd_ne n2]
      exact s04 _ _ e
     ·have xlt : x ≠ lt := ne_of hx ht (by intro z; cases z)
      rw [upd_ne xlt]
      exact s04 _ _ hx
     ·unfold Ls
      rw [upd_same, attrBytes_append, nb_append]
      congr 3
      show _ = nb ((a.1 :: (a.2.length + 2) :: a.2) ++ [])
      rw [List.append_nil]
end
end Dw
namespace Dw
open PySem L2 Sn37
abbrev ZC := List (Nat × Addr × Bytes)
abbrev kvC (z : ZC) : List (Key × V) := z.map fun q => ((.inl (q.1 : Int) : Key), V.ref q.2.1)
structure StIn (t : Adr) (H : Hp) (x dx dc du : Addr) (zc : ZC) (zu : ZU) (s : Settings) : Prop where
 ob : H x = some (.ins t.cSettings dx (fsSettings (.ref dc) (.ref du)))
 ci : H dc = some (.dK (kvC zc))
 cl : ∀ q ∈ zc, Ls H q.2.1 q.2.2 ∧ q.2.2.length ≤ 64 ∧ By q.2.2 ∧ q.1 < 256
 us : UsersAt t H du zu
 ec : s.clients = zc.map fun q => (q.1, q.2.2)
 eu : s.users = zu.map (·.2)
 un : zu.length ≤ 256
theorem StIn.same {t : Adr} {H H' : Hp} {x dx dc du : Addr} {zc : ZC} {zu : ZU} {s : Settings} (h : StIn t H x dx dc du zc zu s) (k : Same H H') : StIn t H' x dx dc du zc zu s :=
 ⟨k _ _ h.ob, k _ _ h.ci, fun q hq => ⟨k _ _ (h.cl q hq).1, (h.cl q hq).2⟩, h.us.same k, h.ec, h.eu, h.un⟩
theorem valV_c (z : ZC) (n : Nat) : valV (kvC z) (.inl (n : Int)) = (z.find? fun q => q.1 == n).map fun q => V.ref q.2.1 := by
 unfold valV kvC
 rw [List.find?_map]
 have e : ((fun kv : Key × V => decide (kv.1 = (.inl (n : Int) : Key))) ∘ fun q : Nat × Addr × Bytes => ((.inl (q.1 : Int) : Key), V.ref q.2.1)) = fun q => q.1 == n := by
  funext q
  show decide ((.inl (q.1 : Int) : Key) = (.inl (n : Int) : Key)) = decide (q.1 = n)
  exact decide_eq_decide.mpr ⟨fun h => by have := Sum.inl.inj h; omega, fun h => by rw [h]⟩
 rw [e, Option.map_map]
 rfl
theorem putK_new {κ : Type} [DecidableEq κ] {kvs : List (κ × V)} {k : κ} {v : V} (h : valV kvs k = none) : putK kvs k v = kvs ++ [(k, v)] := by
 unfold putK
 rw [if_neg]
 intro ha
 obtain ⟨kv, hm, e⟩ := List.any_eq_true.mp ha
 unfold valV at h
 rw [Option.map_eq_none_iff, List.find?_eq_none] at h
 exact h kv hm e
section
variable {P : Program} {w : World} {K : PySem.W.Frag} {mg : Str → Option Value} {base : Heap} {t : Adr}
structure WdAt (H : Hp) (lw : Addr) (zw : ZB) : Prop where
 li : H lw = some (.lst (zr zw))
 ea : ∀ q ∈ zw, Ls H q.1 q.2 ∧ By q.2
def setTo (t : Adr) (H : Hp) (x dx dc du : Addr) (zc : ZC) (r : Option Settings) (Q : VK) (E : XK) : Prop :=
 (∀ s', r = some s' → ∀ H' zc' zu', Off2 dc du H H' → StIn t H' x dx dc du zc' zu' s' → zc'.length ≤ zc.length + 1 → Q .non H') ∧ (r = none → NoW t H E)
def spClient (t : Adr) (f : Settings → List Bytes → Option Settings) : Sp := fun vs H Q E => ∃ x lw dx dc du zc zu s zw, vs = [.ref x, .ref lw] ∧ StIn t H x dx dc du zc zu s ∧ WdAt H lw zw ∧ zc.length ≤ 90000 ∧ setTo t H x dx dc du zc (f s (zb zw)) Q E
theorem sc_client : FnScope ["settings", "words", "client", "secret"] ["settings", "words"] (defScope (top 98)) := ⟨rfl, rfl, rfl, by decide +kernel, rfl, by decide +kernel, by decide +kernel⟩
theorem any_c (zc : ZC) (n : Nat) : ((zc.map fun q => (q.1, q.2.2)).any fun c => c.1 == n) = (zc.find? fun q => q.1 == n).isSome := by
 rw [List.any_map]
 induction zc with
 | nil => rfl
 | cons q r ih =>
  rw [List.any_cons, List.find?_cons]
  show (q.1 == n || _) = _
  cases h : q.1 == n with
  | true => rfl
  | false => rw [Bool.false_or, ih]
theorem ok_take_client (T : Txt K mg t) : FnOk P w K mg base (CXF P w) 3 t.take_client.a t.take_client.fd ["settings", "words"] (spClient t clientWords) := by
 refine T.settings.take_client.fn.okX sc_client (fun vs H Q E h => ?_) (fun cdv A outer s H vs Q E hr h => ?_)
 ·obtain ⟨x, lw, dx, dc, du, zc, zu, st, zw, rfl, _⟩ := h
  rfl
 ·obtain ⟨x, lw, dx, dc, du, zc, zu, st, zw, rfl, hs, hw, hzl, q1, q2⟩ := h
  have ks := T.settings.cSettings
  refine ⟨_, (pss_cons (ps_if (pt_cmpR o_ne (pLenV T (pv 1)) pe_int (nomark _))
   (pss_one (ps_raise T.settings.cWrongWords hr rfl))
   pss_nil)
   (pss_cons (ps_set (i := 2) sc_client.nd rfl (Or.inl rfl) (callX (ok_read_number T) T.settings.read_number hr passF (pa_cons (pe_ix (ix_vk K) (pv 1) pe_int (fun _ _ => rfl)) (pa_cons (gN T "MOST_CLIENT" 255) pa_nil))))
   (pss_cons (ps_set (i := 3) sc_client.nd rfl (Or.inl rfl) (pe_ix (ix_vk K) (pv 1) pe_int (fun _ _ => rfl)))
   (pss_cons (ps_if ((pw_or (pt_cmp (pc_din (hu1 hr) (pv 2) (fldK K (pv 0) rfl))) (pw_or1 (pt_cmpR o_gt (pLen T (pv 3)) (gN T "MOST_SECRET" 64) (nomark _))))).pt
   (pss_one (ps_raise T.settings.cWrongWords hr rfl))
   pss_nil)
   (pss_one (ps_dput (hu1 hr) (fldK K (pv 0) rfl) (pv 2) (pv 3) rfl)))))), ?_⟩
  refine ⟨_, rfl, lw, _, rfl, .inl (SqL.of hw.li), _, 2, rfl, rfl, _, rfl, ite2 (fun c => ?_) (fun c => ?_)⟩
  ·have c : ¬ zw.length = 2 := by simpa using c
   refine q2 ?_ H (Same.refl H)
   match zw, c with
   | [], _ => rfl
   | [a], _ => rfl
   | [a, b], c => exact absurd rfl c
   | a :: b :: d :: r, _ => rfl
  have c : zw.length = 2 := by simpa using c
  obtain ⟨⟨ka, kb⟩, ⟨xa, xb⟩, rfl⟩ : ∃ a b, zw = [a, b] := by
   match zw, c with
   | [a, b], _ => exact ⟨a, b, rfl⟩
  have hk := hw.ea (ka, kb) (by simp)
  have hx := hw.ea (xa, xb) (by simp)
  have ecw : clientWords st (zb [(ka, kb), (xa, xb)]) = (number 255 kb).bind fun k => if 64 < xb.length ∨ (st.clients.any fun c => c.1 == k) = true then none else some { st with clients := st.clients ++ [(k, xb)] } := rfl
  rw [ecw] at q1 q2
  refine ⟨_, rfl, lw, _, 0, .ref ka, rfl, rfl, SqL.of hw.li, rfl, ka, kb, 255, rfl, hk.1, fun n hn => ?_, fun hn => q2 (by rw [hn]; rfl)⟩
  rw [hn] at q1 q2
  have q1 : ∀ s', (if 64 < xb.length ∨ (st.clients.any fun c => c.1 == n) = true then none else some { st with clients := st.clients ++ [(n, xb)] }) = some s' → ∀ H' zc' zu', Off2 dc du H H' → StIn t H' x dx dc du zc' zu' s' → zc'.length ≤ zc.length + 1 → Q .non H' := q1
  have q2 : (if 64 < xb.length ∨ (st.clients.any fun c => c.1 == n) = true then none else some { st with clients := st.clients ++ [(n, xb)] }) = none → NoW t H E := q2
  rw [hs.ec, any_c] at q1 q2
  refine ⟨_, rfl, lw, _, 1, .ref xa, rfl, rfl, SqL.of hw.li, rfl, ?_⟩
  refine ⟨_, rfl, _, rfl, x, _, dx, _, _, rfl, hs.ob, ks.cl, na ks _, fsSettings_secrets, dc, _, rfl, DGet.k (k := .inl (n : Int)) hs.ci, _, rfl, ?_⟩
  rw [valV_c]
  cases hf : zc.find? (fun q => q.1 == n) with
  | some qf =>
   refine ite2 (fun _ => q2 (if_pos (.inr (by rw [hf]; rfl))) H (Same.refl H)) (fun z => absurd rfl z)
  | none =>
   rw [hf] at q1 q2
   refine ite2 (fun z => absurd z (fun e => nomatch (e : false = true))) (fun _ => ?_)
   refine ⟨_, rfl, xa, xb, rfl, SqL.of hx.1, xb.length, 64, rfl, rfl, _, rfl, ite2 (fun c1 => ?_) (fun c1 => ?_)⟩
   ·exact q2 (if_pos (.inl (of_decide_eq_true c1))) H (Same.refl H)
   have c1 : ¬ 64 < xb.length := fun z => c1 (decide_eq_true z)
   have hv : valV (kvC zc) (.inl (n : Int)) = none := by rw [valV_c, hf]; rfl
   refine ⟨_, rfl, _, rfl, x, _, dx, _, _, rfl, hs.ob, ks.cl, na ks _, fsSettings_secrets, _, rfl, dc, _, rfl, DPut.k (k := .inl (n : Int)) hs.ci ?_, ?_⟩
   ·rw [List.length_map]
    exact Nat.lt_of_le_of_lt hzl (by decide)
   have hdu : du ≠ dc := ne_of hs.us.di hs.ci (by intro z; cases z)
   have hne : ∀ {a : Addr} {l : List Nat}, Ls H a l → a ≠ dc := fun h => ne_of h hs.ci (by intro z; cases z)
   have hsm : ∀ b o, b ≠ dc → H b = some o → upd H dc (.dK (putK (kvC zc) (.inl (n : Int)) (.ref xa))) b = some o := fun b o nb e => by rw [upd_ne nb]; exact e
   refine q1 _ (if_neg (fun h => by rcases h with h | h; exact c1 h; cases h)) _ (zc ++ [(n, xa, xb)]) zu (fun b o n1 _ e => hsm b o n1 e) ⟨?_, ?_, ?_, ⟨?_, ?_⟩, ?_, hs.eu, hs.un⟩ ?_
   ·exact hsm _ _ (ne_of hs.ob hs.ci (by intro z; cases z)) hs.ob
   ·rw [upd_same, putK_new hv]
    exact congrArg (fun l => some (HO.dK l)) (List.map_append (f := fun q : Nat × Addr × Bytes => ((.inl (q.1 : Int) : Key), V.ref q.2.1)) (l₁ := zc) (l₂ := [(n, xa, xb)])).symm
   ·intro q hq
    rcases List.mem_append.mp hq with hq | hq
    ·exact ⟨hsm _ _ (hne (hs.cl q hq).1) (hs.cl q hq).1, (hs.cl q hq).2⟩
    ·rw [List.mem_singleton.mp hq]
     have := number_le hn
     exact ⟨hsm _ _ (hne hx.1) hx.1, by show xb.length ≤ 64; omega, hx.2, by show n < 256; omega⟩
   ·exact hsm _ _ hdu hs.us.di
   ·intro q hq
    obtain ⟨⟨dq, lp, lt, a1, a2, a3⟩, ok⟩ := hs.us.us q hq
    exact ⟨⟨dq, lp, lt, hsm _ _ (ne_of a1 hs.ci (by intro z; cases z)) a1, hsm _ _ (hne a2) a2, hsm _ _ (hne a3) a3⟩, ok⟩
   ·rw [List.map_append]
    rfl
   ·rw [List.length_append]
    exact Nat.le_refl _
end
end Dw
namespace Dw
open PySem L2 Sn37
theorem pLenT {X : Cx} {t : Adr} {e : Expr} {te : TE} {p pos : Pos} {K : PySem.W.Frag} (T : Txt K X.mg t) (h : PE X e te) (hg : Gl X "len" := by rfl) (he : starEach [e] X.env = [(false, eval e X.env)] := by rfl) (hK : X.K = K := by rfl) :
  PE X (.Call (.Name "len" p) [e] [] pos) (tCB (fun xs H Q => ∃ a kvs, xs = [V.ref a] ∧ H a = some (.dT kvs) ∧ Q (.int kvs.length) H) (tCons te tNil)) := by
 subst hK
 exact pe_callB call_lenT hg (bl_in T "len") PySem.boot_len (pa_cons h pa_nil he) (by decide) (by decide) he rfl
structure Kept (u u' : User) (wd : Bytes) : Prop where
 nm : u'.name = u.name
 pw : u'.password = u.password
 tl : (attrBytes u'.told).length ≤ (attrBytes u.told).length + 202
 tb : By wd → By (attrBytes u.told) → By (attrBytes u'.told)
theorem told_kept {u u' : User} {wd : Bytes} (h : told u wd = some u') : Kept u u' wd := by
 by_cases h61 : 61 ∈ wd
 ·by_cases hk : labelOf wd = ascii "limit"
  ·rw [told_limit h61 hk] at h
   split at h
   ·cases h
   ·obtain ⟨n, _, e⟩ := Option.map_eq_some_iff.mp h
    subst e
    exact ⟨rfl, rfl, Nat.le_add_right _ _, fun _ h => h⟩
  ·rw [told_rest h61 hk] at h
   obtain ⟨a, ha, e⟩ := Option.map_eq_some_iff.mp h
   subst e
   obtain ⟨h1, h2, h3⟩ := toldOf_len ha
   refine ⟨rfl, rfl, ?_, fun hw hb => ?_⟩
   ·show (attrBytes (u.told ++ [a])).length ≤ _
    rw [attrBytes_append, List.length_append]
    show _ + ((a.1 :: (a.2.length + 2) :: a.2) ++ []).length ≤ _
    rw [List.append_nil, List.length_cons, List.length_cons]
    omega
   ·show By (attrBytes (u.told ++ [a]))
    rw [attrBytes_append]
    refine by_app hb ?_
    show By ((a.1 :: (a.2.length + 2) :: a.2) ++ [])
    rw [List.append_nil]
    intro c hc
    rcases List.mem_cons.mp hc with rfl | hc
    ·exact h2
    rcases List.mem_cons.mp hc with rfl | hc
    ·omega
    ·exact h3 (fun c hc => hw c (List.mem_of_mem_drop hc)) c hc
 ·rw [told_none h61] at h
  cases h
theorem foldlM_at {r : List Bytes} {u0 u : User} {i : Nat} {wd : Bytes} (h : r[i]? = some wd) (hu : (r.take i).foldlM told u0 = some u) : (r.take (i + 1)).foldlM told u0 = told u wd := by
 rw [List.take_add_one, h]
 show (r.take i ++ [wd]).foldlM told u0 = _
 rw [List.foldlM_append, hu]
 show (told u wd).bind some = _
 cases told u wd <;> rfl
theorem foldlM_none {r : List Bytes} {u0 : User} {i : Nat} (h : (r.take i).foldlM told u0 = none) : r.foldlM told u0 = none := by
 conv => lhs; rw [← List.take_append_drop i r]
 rw [List.foldlM_append, h]
 rfl
section
variable {P : Program} {w : World} {K : PySem.W.Frag} {mg : Str → Option Value} {base : Heap} {t : Adr}
theorem sc_user : FnScope ["settings", "words", "name", "password", "user", "word"] ["settings", "words"] (defScope (top 99)) := ⟨rfl, rfl, rfl, by decide +kernel, rfl, by decide +kernel, by decide +kernel⟩
theorem any_u (zu : ZU) (k : Bytes) : ((zu.map (·.2)).any fun u => u.name == k) = (zu.find? fun q => q.2.name == k).isSome := by
 rw [List.any_map]
 induction zu with
 | nil => rfl
 | cons q r ih =>
  rw [List.any_cons, List.find?_cons]
  show (q.2.name == k || _) = _
  cases h : q.2.name == k with
  | true => rfl
  | false => rw [Bool.false_or, ih]
theorem ok_take_user (T : Txt K mg t) : FnOk P w K mg base (CXF P w) 5 t.take_user.a t.take_user.fd ["settings", "words"] (spClient t userWords) := by
 refine T.settings.take_user.fn.okX sc_user (fun vs H Q E h => ?_) (fun cdv A outer s H vs Q E hr h => ?_)
 ·obtain ⟨x, lw, dx, dc, du, zc, zu, st, zw, rfl, _⟩ := h
  rfl
 ·obtain ⟨x, lw, dx, dc, du, zc, zu, st, zw, rfl, hs, hw, hzl, q1, q2⟩ := h
  have ks := T.settings.cSettings
  have ku := T.settings.cUser
  refine ⟨_, (pss_cons (ps_if (pt_not (pt_chain o_le o_le pe_int (pLenV T (pv 1)) (pe_op o_add pe_int (gN T "MOST_WORDS" 8))))
   (pss_one (ps_raise T.settings.cWrongWords hr rfl))
   pss_nil)
   (pss_cons (ps_set (i := 2) sc_user.nd rfl (Or.inl rfl) (pe_callTy call_tuple_of rfl (bl_in T "tuple") bt_tuple (pa_cons (pe_ix (ix_vk K) (pv 1) pe_int (fun _ _ => rfl)) pa_nil)))
   (pss_cons (ps_set (i := 3) sc_user.nd rfl (Or.inl rfl) (pe_ix (ix_vk K) (pv 1) pe_int (fun _ _ => rfl)))
   (pss_cons (ps_if ((pw_or (pt_cmpR o_gt (pLenV T (pv 2)) (gN T "MOST_NAME" 63) (nomark _)) (pw_or1 (pt_cmpR o_gt (pLen T (pv 3)) (gN T "MOST_PASSWORD" 128) (nomark _))))).pt
   (pss_one (ps_raise T.settings.cWrongWords hr rfl))
   pss_nil)
   (pss_cons (ps_if ((pw_or (pt_cmp (pc_din (hu1 hr) (pv 2) (fldK K (pv 0) rfl))) (pw_or1 (pt_cmpR o_eq (pLenT T (fldK K (pv 0) rfl)) (gN T "MOST_USERS" 256) (nomark _))))).pt
   (pss_one (ps_raise T.settings.cWrongWords hr rfl))
   pss_nil)
   (pss_cons (ps_set (i := 4) sc_user.nd rfl (Or.inl rfl) (makeN T.settings.cUser T.settings.iUser (ok_iUser T) hr (pa_cons (pv 3) pa_nil)))
   (pss_cons (ps_for own_pass rfl (pi_list (pe_slice (sl_vk K) (pv 1) (po_some pe_int) po_none)) (pg_name (i := 5) sc_user.nd rfl (Or.inl rfl))
   (pss_one (ps_expr (callX (ok_take_user_word T) T.settings.take_user_word hr passF (pa_cons (pv 4) (pa_cons (pv 5) pa_nil))))))
   (pss_one (ps_dput (hu1 hr) (fldK K (pv 0) rfl) (pv 2) (pv 4) rfl))))))))), ?_⟩
  have S0 := Same.refl H
  refine ⟨_, rfl, lw, _, rfl, .inl (SqL.of hw.li), 2, _, rfl, rfl, _, rfl, ite2 (fun c1 => ?_) (fun c1 => ?_)⟩
  rotate_left
  ·have c1 : ¬ 2 ≤ (zr zw).length := fun z => c1 (decide_eq_true z)
   rw [List.length_map] at c1
   refine ⟨_, rfl, ite2 (fun _ => q2 ?_ H S0) (fun z => absurd rfl z)⟩
   match zw, c1 with
   | [], _ => rfl
   | [a], _ => rfl
   | a :: b :: r, c1 => exact absurd (by show 2 ≤ r.length + 1 + 1; omega) c1
  have c1 := of_decide_eq_true c1
  rw [List.length_map] at c1
  obtain ⟨⟨ka, kb⟩, ⟨xa, xb⟩, zr2, rfl⟩ : ∃ a b r, zw = a :: b :: r := by
   match zw, c1 with
   | a :: b :: r, _ => exact ⟨a, b, r, rfl⟩
  have hk := hw.ea (ka, kb) (by simp)
  have hx := hw.ea (xa, xb) (by simp)
  have ezl : (zr ((ka, kb) :: (xa, xb) :: zr2)).length = zr2.length + 2 := by simp
  have erl : (zb zr2).length = zr2.length := List.length_map _
  have eul : userWords st (zb ((ka, kb) :: (xa, xb) :: zr2)) = if 63 < kb.length ∨ 128 < xb.length ∨ 8 < (zb zr2).length ∨ MOSTUSERS ≤ st.users.length ∨ (st.users.any fun u => u.name == kb) = true then none
   else ((zb zr2).foldlM told ⟨kb, xb, [], none⟩).map fun u => { st with users := st.users ++ [u] } := rfl
  rw [eul, hs.eu, any_u, erl, List.length_map] at q1 q2
  refine ⟨2, 8, rfl, rfl, _, _, rfl, rfl, _, rfl, ite2 (fun c2 => ?_) (fun c2 => ?_)⟩
  ·have c2 : ¬ (zr ((ka, kb) :: (xa, xb) :: zr2)).length ≤ 2 + 8 := by simpa using c2
   rw [ezl] at c2
   exact q2 (if_pos (.inr (.inr (.inl (by omega))))) H S0
  have c2 : (zr ((ka, kb) :: (xa, xb) :: zr2)).length ≤ 2 + 8 := by simpa using c2
  rw [ezl] at c2
  refine ⟨_, rfl, lw, _, 0, .ref ka, rfl, rfl, SqL.of hw.li, rfl, ka, nb kb, rfl, .inl ⟨SqL.of hk.1, fun tl ntl => ?_⟩⟩
  have sa : Same H (upd H tl (.tup (nb kb))) := up ntl
  have htl : upd H tl (.tup (nb kb)) tl = some (.tup (nb kb)) := upd_same
  generalize upd H tl (.tup (nb kb)) = Ha at *
  refine ⟨_, rfl, lw, _, 1, .ref xa, rfl, rfl, SqL.of (sa _ _ hw.li), rfl, ?_⟩
  refine ⟨_, rfl, tl, _, rfl, .inr (SqT.of htl), _, 63, rfl, rfl, _, rfl, ite2 (fun c3 => ?_) (fun c3 => ?_)⟩
  ·have c3 := of_decide_eq_true c3
   rw [nb_length] at c3
   exact q2 (if_pos (.inl c3)) Ha sa
  have c3 : ¬ 63 < (nb kb).length := fun z => c3 (decide_eq_true z)
  rw [nb_length] at c3
  refine ⟨_, rfl, xa, xb, rfl, SqL.of (sa _ _ hx.1), _, 128, rfl, rfl, _, rfl, ite2 (fun c4 => ?_) (fun c4 => ?_)⟩
  ·exact q2 (if_pos (.inr (.inl (of_decide_eq_true c4)))) Ha sa
  have c4 : ¬ 128 < xb.length := fun z => c4 (decide_eq_true z)
  have hkt : Ha tl = some (.tup ((nK kb).map kV)) := by rw [htl, nb_kV]
  refine ⟨_, rfl, _, rfl, x, _, dx, _, _, rfl, sa _ _ hs.ob, ks.cl, na ks _, fsSettings_users, du, _, rfl, DGet.t (sa _ _ hs.us.di) hkt, _, rfl, ?_⟩
  rw [valV_u]
  cases hf : zu.find? (fun q => q.2.name == kb) with
  | some qf =>
   refine ite2 (fun _ => q2 (if_pos (.inr (.inr (.inr (.inr (by rw [hf]; rfl)))))) Ha sa) (fun z => absurd rfl z)
  | none =>
  rw [hf] at q1 q2
  refine ite2 (fun z => absurd z (fun e => nomatch (e : false = true))) (fun _ => ?_)
  refine ⟨_, rfl, x, _, dx, _, _, rfl, sa _ _ hs.ob, ks.cl, na ks _, fsSettings_users, du, _, rfl, sa _ _ hs.us.di, _, 256, rfl, rfl, _, rfl, ite2 (fun c5 => ?_) (fun c5 => ?_)⟩
  ·have c5 := of_decide_eq_true c5
   rw [List.length_map] at c5
   exact q2 (if_pos (.inr (.inr (.inr (.inl (by show 256 ≤ _; omega)))))) Ha sa
  have c5 : ¬ (kvU zu).length = 256 := fun z => c5 (decide_eq_true z)
  rw [List.length_map] at c5
  have hun := hs.un
  have hno : ¬ (63 < kb.length ∨ 128 < xb.length ∨ 8 < zr2.length ∨ MOSTUSERS ≤ zu.length ∨ (none : Option (Addr × User)).isSome = true) := by
   rintro (h | h | h | h | h)
   ·exact c3 h
   ·exact c4 h
   ·omega
   ·have h : 256 ≤ zu.length := h
    omega
   ·cases h
  rw [if_neg hno] at q1 q2
  refine ⟨_, rfl, ?_⟩
  intro ux ud nx nd ne
  refine ⟨ux, ud, _, rfl, upd_same, fun lt H2 nlt elt st2 => ⟨rfl, ?_⟩⟩
  have s2 : Same Ha H2 := made_same nx nd st2
  have nltA : Ha lt = none := by
   have h1 : lt ≠ ux := fun e => by rw [e, upd_same] at nlt; cases nlt
   rw [upd_ne h1] at nlt
   have h2 : lt ≠ ud := fun e => by rw [e, upd_same] at nlt; cases nlt
   rw [upd_ne h2] at nlt
   exact nlt
  have s02 := sa.trans s2
  refine ⟨_, rfl, _, rfl, lw, _, rfl, SqL.of (s02 _ _ hw.li), ?_⟩
  intro lr nlr
  rw [show cutV (zr ((ka, kb) :: (xa, xb) :: zr2)) (some 2) none = zr zr2 from cutV_from _ 2]
  have s3 : Same H2 (upd H2 lr (.lst (zr zr2))) := up nlr
  have s23 := s2.trans s3
  have lrlt : lr ≠ lt := fun e => by rw [e, elt] at nlr; cases nlr
  have lrux : lr ≠ ux := fun e => by rw [e, st2.1] at nlr; cases nlr
  have uxlt : ux ≠ lt := ne_of st2.1 elt (by intro z; cases z)
  refine ⟨lr, rfl, ⟨_, SqL.of upd_same⟩, for_list (xs := zr zr2) (fun i σ H3 => ∃ u o5, (((zb zr2).take i).foldlM told ⟨kb, xb, [], none⟩ = some u) ∧ σ = [some (.ref x), some (.ref lw), some (.ref tl), some (.ref xa), some (.ref ux), o5] ∧ Same Ha H3 ∧ H3 lr = some (.lst (zr zr2)) ∧
   H3 ux = some (.ins t.cUser ud (fsUser (.ref xa) (limV u.limit) (.ref lt))) ∧ Ls H3 lt (attrBytes u.told) ∧ (attrBytes u.told).length ≤ 202 * i ∧ By (attrBytes u.told) ∧ u.name = kb ∧ u.password = xb) ?_ ?_ ?_ ?_⟩
  ·refine ⟨_, none, rfl, rfl, s23, upd_same, s3 _ _ st2.1, s3 _ _ elt, Nat.le_refl _, fun c hc => absurd hc List.not_mem_nil, rfl, rfl⟩
  ·rintro i σ H3 _ ⟨u, o5, _, _, _, k, _⟩
   exact SqL.of k
  ·rintro i y σ H3 hy ⟨u, o5, hfo, rfl, sh, hlr, hux, hlt, htl2, htb, hnm, hpw⟩
   obtain ⟨qw, hqw, rfl⟩ : ∃ q, zr2[i]? = some q ∧ y = V.ref q.1 := by
    rw [List.getElem?_map] at hy
    cases e : zr2[i]? with
    | none => rw [e] at hy; cases hy
    | some n => rw [e] at hy; exact ⟨n, rfl, (Option.some.inj hy).symm⟩
   have hil := (List.getElem?_eq_some_iff.mp hqw).1
   have hmw := hw.ea qw (List.mem_cons_of_mem _ (List.mem_cons_of_mem _ (List.mem_of_getElem? hqw)))
   have hqb : (zb zr2)[i]? = some qw.2 := by rw [List.getElem?_map, hqw]; rfl
   have hst := foldlM_at hqb hfo
   have s03 := sa.trans sh
   refine ⟨_, rfl, _, rfl, ux, qw.1, ud, xa, lt, u, qw.2, rfl, hux, hlt, by omega, s03 _ _ hmw.1, fun u' hu' H' off e1 e2 => ?_, fun hn H' s' => q2 ?_ H' (s03.trans s')⟩
   ·rw [hu'] at hst
    have kp := told_kept hu'
    have hsA : Same Ha H' := fun b o e => off b o (fun z => by rw [z, nx] at e; cases e) (fun z => by rw [z, nltA] at e; cases e) (sh _ _ e)
    refine ⟨u', _, hst, rfl, hsA, off _ _ lrux lrlt hlr, e1, e2, ?_, kp.tb hmw.2 htb, kp.nm.trans hnm, kp.pw.trans hpw⟩
    have := kp.tl
    omega
   ·rw [hn] at hst
    rw [foldlM_none hst]
    rfl
  ·rintro σ H3 ⟨u, o5, hfo, rfl, sh, hlr, hux, hlt, htl2, htb, hnm, hpw⟩
   rw [List.length_map] at htl2
   rw [List.length_map, ← erl, List.take_length] at hfo
   have s03 := sa.trans sh
   have hv : valV (kvU zu) (nK kb) = none := by rw [valV_u, hf]; rfl
   have hkt3 := sh _ _ hkt
   refine ⟨_, rfl, _, rfl, x, _, dx, _, _, rfl, s03 _ _ hs.ob, ks.cl, na ks _, fsSettings_users, _, rfl, du, _, rfl, DPut.t (s03 _ _ hs.us.di) hkt3 ?_, ?_⟩
   ·rw [List.length_map]
    exact Nat.lt_of_le_of_lt hun (by decide)
   have hs3 := hs.same s03
   have hsm : ∀ b o, b ≠ du → H3 b = some o → upd H3 du (.dT (putK (kvU zu) (nK kb) (.ref ux))) b = some o := fun b o nb e => by rw [upd_ne nb]; exact e
   have hne : ∀ {a : Addr} {l : List Nat}, Ls H3 a l → a ≠ du := fun h => ne_of h hs3.us.di (by intro z; cases z)
   have hU : UsAt t H3 ux u := ⟨ud, xa, lt, hux, by rw [hpw]; exact s03 _ _ hx.1, hlt⟩
   have hO : UsOk u := ⟨by rw [hpw]; omega, by rw [hpw]; exact hx.2, by omega, htb⟩
   refine q1 { st with users := st.users ++ [u] } ?_ _ zc (zu ++ [(ux, u)]) (fun b o _ n2 e => hsm b o n2 (s03 _ _ e)) ⟨?_, ?_, ?_, ⟨?_, ?_⟩, hs.ec, ?_, ?_⟩ (Nat.le_add_right _ _)
   ·rw [hfo]
    show some _ = some _
    rw [hs.eu]
   ·exact hsm _ _ (ne_of hs3.ob hs3.us.di (by intro z; cases z)) hs3.ob
   ·exact hsm _ _ (ne_of hs3.ci hs3.us.di (by intro z; cases z)) hs3.ci
   ·intro q hq
    exact ⟨hsm _ _ (hne (hs3.cl q hq).1) (hs3.cl q hq).1, (hs3.cl q hq).2⟩
   ·rw [upd_same, putK_new hv, ← hnm]
    exact congrArg (fun l => some (HO.dT l)) (List.map_append (f := fun q : Addr × User => (nK q.2.name, V.ref q.1)) (l₁ := zu) (l₂ := [(ux, u)])).symm
   ·intro q hq
    have mv : UsAt t H3 q.1 q.2 → UsAt t (upd H3 du (.dT (putK (kvU zu) (nK kb) (.ref ux)))) q.1 q.2 := fun ⟨dq, lp, lt, a1, a2, a3⟩ =>
     ⟨dq, lp, lt, hsm _ _ (ne_of a1 hs3.us.di (by intro z; cases z)) a1, hsm _ _ (hne a2) a2, hsm _ _ (hne a3) a3⟩
    rcases List.mem_append.mp hq with hq | hq
    ·exact ⟨mv (hs3.us.us q hq).1, (hs3.us.us q hq).2⟩
    ·have e := List.mem_singleton.mp hq
     subst e
     exact ⟨mv hU, hO⟩
   ·show st.users ++ [u] = _
    rw [hs.eu, List.map_append]
    rfl
   ·rw [List.length_append]
    show _ + 1 ≤ 256
    omega
end
end Dw
namespace L2
open PySem PySem.Spec PyProof.Rows
section
variable {P : Program} {w : World} {K : PySem.W.Frag} {mg : Str → Option Value} {base : Heap} {N : List Str} {qual : Str} {scope : Scope} {fA : Addr} {cd : Value} {A : Around} {outer : List Env} {s0 : Shared} {H0 : Hp} {E : XK}
def tRaiseV (E : XK) (i : Nat) (C : Addr) (f : Str) : TS := fun _ σ H => ∃ n, σ[i]? = some (some (.int n)) ∧ ∀ d, H d = none → E (.ref C) (some d) (upd H d (.xd [(f, .int n)]))
theorem phx_raise {C0 C fI : Addr} {x f y q2 z : Str} {i k : Nat} {j : Nat} {np vp cpos cp pos : Pos} (c : ExcI K mg x f y q2 C fI) (hr : Room k (A.deeper (envOfC qual scope s0.heap.objs.size fA cd)))
  (hg : Gl (cxOf (CXF P w) P w K mg base N qual scope fA cd A outer s0 H0 E) x) (hN : N[i]? = some z) (hz : scope.names.lookup z = some .local)
  (hdb : (x == ("__debug__" : Str)) = false := by decide) (hdz : (z == ("__debug__" : Str)) = false := by decide) (hcz : (z == ("__classdict__" : Str)) = false := by decide) :
  PHx (cxOf (CXF P w) P w K mg base N qual scope fA cd A outer s0 H0 E) C0 [.Raise (some (.Call (.Name x np) [.Name z vp] [] cpos)) (some (.Constant .none j cp)) pos] (tRaiseV E i C f) := by
 intro pins σ H s a oe D ok I _ hf2 ⟨n, hσ, hE⟩
 refine wpAny_execs_cons (wpAny_mono (raiseX (D := D) c I ok hf2 hr hg hN hz hσ hE hdb hdz hcz) (fun fl s' q => ?_) fun _ _ q => q)
 cases fl with
 | next => exact wpAny_execs_nil q
 | ret v => exact q
 | brk => exact q
 | cont => exact q
end
end L2
namespace Dw
open PySem L2 Sn37
section
variable {P : Program} {w : World} {K : PySem.W.Frag} {mg : Str → Option Value} {base : Heap} {t : Adr}
theorem sc_words2 : FnScope ["settings", "words"] ["settings", "words"] (defScope (top 97)) := ⟨rfl, rfl, rfl, by decide +kernel, rfl, by decide +kernel, by decide +kernel⟩
theorem ok_take_words (T : Txt K mg t) : FnOk P w K mg base (CXF P w) 6 t.take_words.a t.take_words.fd ["settings", "words"] (spClient t wordsIn) := by
 refine T.settings.take_words.fn.okX sc_words2 (fun vs H Q E h => ?_) (fun cdv A outer s H vs Q E hr h => ?_)
 ·obtain ⟨x, lw, dx, dc, du, zc, zu, st, zw, rfl, _⟩ := h
  rfl
 ·obtain ⟨x, lw, dx, dc, du, zc, zu, st, zw, rfl, hs, hw, hzl, hq⟩ := h
  refine ⟨_, (pss_cons (ps_if (pt_not (pt_truth (pv 1) (fun _ => rfl)))
   (pss_one ps_retN)
   pss_nil)
   (pss_one (ps_if (pt_cmpR (o_eqN K hr.units) (pe_ix (ix_vk K) (pv 1) pe_int (fun _ _ => rfl)) (callN (ok_codes T) T.signs.codes hr (pa_cons pe_str pa_nil)) (nomark _))
   (pss_one (ps_expr (callX (ok_take_client T) T.settings.take_client hr passF (pa_cons (pv 0) (pa_cons (pe_slice (sl_vk K) (pv 1) (po_some pe_int) po_none) pa_nil)))))
   (pss_one (ps_if (pt_cmpR (o_eqN K hr.units) (pe_ix (ix_vk K) (pv 1) pe_int (fun _ _ => rfl)) (callN (ok_codes T) T.signs.codes hr (pa_cons pe_str pa_nil)) (nomark _))
    (pss_one (ps_expr (callX (ok_take_user T) T.settings.take_user hr passF (pa_cons (pv 0) (pa_cons (pe_slice (sl_vk K) (pv 1) (po_some pe_int) po_none) pa_nil)))))
    (pss_one (ps_raise T.settings.cWrongWords hr rfl))))))), ?_⟩
  refine ⟨_, rfl, _, .inl ⟨_, SqL.of hw.li, rfl⟩, ite2 (fun c => ?_) (fun c => ?_)⟩
  ·have e : zw = [] := emp_of (fun z => by rw [z] at c; cases c)
   subst e
   exact hq.1 st rfl H zc zu (fun b o _ _ e => e) hs (Nat.le_add_right _ _)
  obtain ⟨⟨wa, wb⟩, zw2, rfl⟩ : ∃ a r, zw = a :: r := by
   cases zw with
   | nil => exact absurd rfl c
   | cons a r => exact ⟨a, r, rfl⟩
  have hwa := hw.ea (wa, wb) (by simp)
  have ewi : wordsIn st (zb ((wa, wb) :: zw2)) = if wb = ascii "client" then clientWords st (zb zw2) else if wb = ascii "user" then userWords st (zb zw2) else none := rfl
  rw [ewi] at hq
  have tail : ∀ {H2 : Hp} (f : Settings → List Bytes → Option Settings), Same H H2 → setTo t H x dx dc du zc (f st (zb zw2)) Q E → ∀ ls, H2 ls = none → spClient t f [.ref x, .ref ls] (upd H2 ls (.lst (zr zw2))) Q E := by
   intro H2 f s2 hq ls nls
   have s3 := s2.trans (up (o := .lst (zr zw2)) nls)
   refine ⟨x, ls, dx, dc, du, zc, zu, st, zw2, rfl, hs.same s3, ⟨upd_same, fun q h => ⟨s3 _ _ (hw.ea q (List.mem_cons_of_mem _ h)).1, (hw.ea q (List.mem_cons_of_mem _ h)).2⟩⟩, hzl, ?_, ?_⟩
   ·exact fun s' e H' zc' zu' off => hq.1 s' e H' zc' zu' (fun b o n1 n2 e => off b o n1 n2 (s3 _ _ e))
   ·exact fun e H' s' => hq.2 e H' (s3.trans s')
  refine ⟨_, rfl, lw, _, 0, .ref wa, rfl, rfl, SqL.of hw.li, rfl, _, rfl, by decide, fun p1 H1 n1 s1 l1 => ?_⟩
  have l1 : Ls H1 p1 (ascii "client") := l1
  refine ⟨wa, p1, wb, _, rfl, rfl, SqL.of (s1 _ _ hwa.1), SqL.of l1, _, rfl, ite2 (fun c1 => ?_) (fun c1 => ?_)⟩
  ·rw [if_pos (of_decide_eq_true c1)] at hq
   refine ⟨_, rfl, _, rfl, _, rfl, lw, _, rfl, SqL.of (s1 _ _ hw.li), fun ls nls => ?_⟩
   rw [show cutV (zr ((wa, wb) :: zw2)) (some 1) none = zr zw2 from cutV_from _ 1]
   exact tail clientWords s1 hq ls nls
  rw [if_neg (fun z => c1 (decide_eq_true z))] at hq
  refine ⟨_, rfl, lw, _, 0, .ref wa, rfl, rfl, SqL.of (s1 _ _ hw.li), rfl, _, rfl, by decide, fun p2 H2 n2 s2 l2 => ?_⟩
  have l2 : Ls H2 p2 (ascii "user") := l2
  have s02 := s1.trans s2
  refine ⟨wa, p2, wb, _, rfl, rfl, SqL.of (s02 _ _ hwa.1), SqL.of l2, _, rfl, ite2 (fun c2 => ?_) (fun c2 => ?_)⟩
  ·rw [if_pos (of_decide_eq_true c2)] at hq
   refine ⟨_, rfl, _, rfl, _, rfl, lw, _, rfl, SqL.of (s02 _ _ hw.li), fun ls nls => ?_⟩
   rw [show cutV (zr ((wa, wb) :: zw2)) (some 1) none = zr zw2 from cutV_from _ 1]
   exact tail userWords s02 hq ls nls
  ·rw [if_neg (fun z => c2 (decide_eq_true z))] at hq
   exact hq.2 rfl H2 s02
def okSigns (b : Bytes) : Bool := b.all fun c => decide (32 ≤ c) && decide (c ≤ 126)
def wordsOf2 (b : Bytes) : List Bytes := (partA 32 b []).filter fun l => decide (0 < l.length)
def spRWords (t : Adr) : Sp := fun vs H Q E => ∃ a, ∃ b : List Nat, vs = [.ref a] ∧ Ls H a b ∧ b.length ≤ 90000 ∧
 (okSigns b = true → ∀ D z H', H D = none → Same H H' → WdAt H' D z → zb z = wordsOf2 b → Q (.ref D) H') ∧ (okSigns b = false → NoW t H E)
theorem sc_rwords : FnScope ["line", "byte", "word"] ["line"] (defScope (top 96)) := ⟨rfl, rfl, rfl, by decide +kernel, rfl, by decide +kernel, by decide +kernel⟩
theorem ok_read_words (T : Txt K mg t) : FnOk P w K mg base (CXF P w) 2 t.read_words.a t.read_words.fd ["line"] (spRWords t) := by
 refine T.settings.read_words.fn.okX sc_rwords (fun vs H Q E h => ?_) (fun cdv A outer s H vs Q E hr h => ?_)
 ·obtain ⟨a, b, rfl, _⟩ := h
  rfl
 ·obtain ⟨a, b, rfl, hb, hl, q1, q2⟩ := h
  refine ⟨_, (pss_cons (ps_for own_pass rfl (pi_list (pv 0)) (pg_name (i := 1) sc_rwords.nd rfl (Or.inl rfl))
   (pss_one (ps_if (pt_not (pt_chain o_le o_le (gN T "BLANK" 32) (pv 1) (gN T "LAST_PRINTABLE" 126)))
    (pss_one (ps_raise T.settings.cWrongWords hr rfl))
    pss_nil)))
   (pss_one (ps_ret (pe_lc (own := [("word", 2)]) rfl sc_rwords.nd (pi_list (callN (ok_parted T) T.signs.parted hr (pa_cons (pv 0) (pa_cons (gN T "BLANK" 32) pa_nil)))) (blkOk_by (by kernel_rfl)) (fun _ _ _ _ _ => (pg_name (i := 2) sc_rwords.nd rfl (Or.inl rfl))) (fun _ _ _ _ _ => (pts_one (pt_cmpR o_gt (pLen T (pv 2)) pe_int (nomark _)))) (fun _ _ _ _ _ => (pv 2)))))), ?_⟩
  refine ⟨_, rfl, a, rfl, ⟨_, SqL.of hb⟩, for_list (xs := nb b) (fun i σ H1 => H1 = H ∧ okSigns (b.take i) = true ∧ ∃ o1, σ = [some (.ref a), o1, none]) ⟨rfl, rfl, _, rfl⟩ ?_ ?_ ?_⟩
  ·rintro i σ H1 _ ⟨rfl, _⟩
   exact SqL.of hb
  ·rintro i y σ H1 hy ⟨rfl, hdg, o1, rfl⟩
   obtain ⟨c, hc, rfl⟩ : ∃ c, b[i]? = some c ∧ y = nV c := by
    rw [List.getElem?_map] at hy
    cases e : b[i]? with
    | none => rw [e] at hy; cases hy
    | some n => rw [e] at hy; exact ⟨n, rfl, (Option.some.inj hy).symm⟩
   have bad : ¬ (32 ≤ c ∧ c ≤ 126) → NoW t H1 E := fun h => q2 (by
    unfold okSigns
    rw [List.all_eq_false]
    exact ⟨c, List.mem_of_getElem? hc, by simpa using fun g => by omega⟩)
   refine ⟨_, rfl, 32, c, rfl, rfl, _, rfl, ite2 (fun c3 => ?_) (fun c3 => ?_)⟩
   rotate_left
   ·have c3 : ¬ 32 ≤ c := fun z => c3 (decide_eq_true z)
    exact ⟨_, rfl, ite2 (fun _ => bad (fun h => c3 h.1) H1 (Same.refl H1)) (fun z => absurd rfl z)⟩
   have c3 := of_decide_eq_true c3
   refine ⟨c, 126, rfl, rfl, _, rfl, ite2 (fun c4 => ?_) (fun c4 => ?_)⟩
   ·have c4 : ¬ c ≤ 126 := by simpa using c4
    exact bad (fun h => c4 h.2) H1 (Same.refl H1)
   have c4 : c ≤ 126 := by simpa using c4
   refine ⟨rfl, ?_, _, rfl⟩
   unfold okSigns at hdg ⊢
   rw [List.take_add_one, hc, List.all_append, hdg]
   simp [c3, c4]
  ·rintro σ H1 ⟨rfl, hdg, o1, rfl⟩
   rw [nb_length, List.take_length] at hdg
   have hby : By b := fun c hc => by
    have := List.all_eq_true.mp hdg c hc
    simp at this
    omega
   refine ⟨_, rfl, a, b, 32, rfl, hb, hl, fun D z H2 nD s2 l2 hz ez => ?_⟩
   refine ⟨D, rfl, ⟨_, SqL.of l2⟩, fun DD hDD => ?_⟩
   have hzl : z.length ≤ b.length + 1 := by
    have := partA_length 32 b []
    rw [← ez, List.length_map] at this
    exact this
   refine lc_fmz (K := K) (z := z) (r := fun q => V.ref q.1) (fun q => decide (0 < q.2.length)) (fun q => V.ref q.1) (SqL.of l2) hDD (by omega) (fun u H' Rn Ry hu sH hq => ?_) fun H' s' l' => ?_
   ·refine ⟨rfl, _, rfl, u.1, u.2, rfl, SqL.of (sH _ _ (hz u hu)), u.2.length, 0, rfl, rfl, _, rfl, ?_⟩
    exact ite_b hq (fun h => ⟨_, rfl, h⟩) (fun h => h)
   ·refine q1 hdg DD (z.filter fun q => decide (0 < q.2.length)) H' (s2.free hDD) (s2.trans s') ⟨l', fun q hq => ⟨s' _ _ (hz q (List.mem_filter.mp hq).1), ?_⟩⟩ ?_
    ·have hm : q.2 ∈ partA 32 b [] := by rw [← ez]; exact List.mem_map_of_mem (List.mem_filter.mp hq).1
     exact partA_mem 32 (q := fun c => c < 256) b [] hby (fun c hc => absurd hc List.not_mem_nil) q.2 hm
    ·unfold wordsOf2
     rw [← ez, zb, List.filter_map]
     rfl
end
end Dw
namespace Dw
open PySem L2 Sn37
section
variable {P : Program} {w : World} {K : PySem.W.Frag} {mg : Str → Option Value} {base : Heap} {t : Adr}
def setsOf (b : Bytes) : Except Nat Settings := linesFrom 1 (lines b []) ⟨[], []⟩
def spSets (t : Adr) : Sp := fun vs H Q E => ∃ a, ∃ b : List Nat, vs = [.ref a] ∧ Ls H a b ∧ b.length ≤ 65536 ∧
 (∀ s, setsOf b = .ok s → ∀ x dx dc du zc zu H', Same H H' → StIn t H' x dx dc du zc zu s → Q (.ref x) H') ∧
 (∀ k : Nat, setsOf b = .error k → ∀ d H', H d = none → Same H H' → H' d = some (.xd [("line_number", nV k)]) → E (.ref t.cWrongLine) (some d) H')
theorem sc_sets : FnScope ["text", "settings", "line_number", "line"] ["text"] (defScope (top 95)) := ⟨rfl, rfl, rfl, by decide +kernel, rfl, by decide +kernel, by decide +kernel⟩
theorem line_words2 (s : Settings) (b : Bytes) : line s b = if okSigns b = false then none else wordsIn s (wordsOf2 b) := line_words s b
theorem ok_read_settings (T : Txt K mg t) : FnOk P w K mg base (CXF P w) 7 t.read_settings.a t.read_settings.fd ["text"] (spSets t) := by
 refine T.settings.read_settings.fn.okX sc_sets (fun vs H Q E h => ?_) (fun cdv A outer s H vs Q E hr h => ?_)
 ·obtain ⟨a, b, rfl, _⟩ := h
  rfl
 ·obtain ⟨a, b, rfl, hb, hl, q1, q2⟩ := h
  refine ⟨_, (pss_cons (ps_set (i := 1) sc_sets.nd rfl (Or.inl rfl) (makeN0 T.settings.cSettings T.settings.iSettings (ok_iSettings T) hr))
   (pss_cons (ps_for own_pass rfl (pi_enumK rfl (bl_in T "enumerate") (pa_cons (callN (ok_parted T) T.signs.parted hr (pa_cons (pv 0) (pa_cons (gN T "NEWLINE" 10) pa_nil))) pa_nil)) (pgTupK (n := 2) K rfl (pgs_cons (pg_name (i := 2) sc_sets.nd rfl (Or.inl rfl)) (pgs_cons (pg_name (i := 3) sc_sets.nd rfl (Or.inl rfl)) pgs_nil)))
   (pss_one (ps_tryE body_of T.settings.cWrongWords.xcl rfl (fun _ => PassesOwnAt.leaving)
    (fun _ => px_call (ok_take_words T) (hr.mono (by decide)) rfl T.settings.take_words.mg T.settings.take_words.fn.kp T.settings.take_words.bi (pax_cons (px_of (pv 1)) (pax_cons (px_call (ok_read_words T) (hr.mono (by decide)) rfl T.settings.read_words.mg T.settings.read_words.fn.kp T.settings.read_words.bi (pax_cons (px_of (pv 3)) pax_nil)) pax_nil)))
    (phx_raise (i := 2) T.settings.cWrongLine hr rfl rfl rfl))))
   (pss_one (ps_ret (pv 1))))), ?_⟩
  intro x dx nx nd ne
  refine ⟨x, dx, rfl, upd_same, fun dc du H1 ndc ndu edc edu st1 => ⟨rfl, ?_⟩⟩
  have s1 : Same H H1 := made_same nx nd st1
  have fre : ∀ {c : Addr}, upd (upd H dx (.own x)) x (.ins t.cSettings dx []) c = none → H c = none := fun {c} n => by
   have h1 : c ≠ x := fun e => by rw [e, upd_same] at n; cases n
   rw [upd_ne h1] at n
   have h2 : c ≠ dx := fun e => by rw [e, upd_same] at n; cases n
   rw [upd_ne h2] at n
   exact n
  have ndc := fre ndc
  have ndu := fre ndu
  have hst0 : StIn t H1 x dx dc du [] [] ⟨[], []⟩ := ⟨st1.1, edc, fun q hq => absurd hq List.not_mem_nil, ⟨edu, fun q hq => absurd hq List.not_mem_nil⟩, rfl, rfl, Nat.zero_le _⟩
  refine ⟨_, rfl, a, b, 10, rfl, s1 _ _ hb, by omega, fun D z H2 nD s2 l2 hz ez => ?_⟩
  have s02 := s1.trans s2
  have hzl : z.length ≤ b.length + 1 := by
   have := partA_length 10 b []
   rw [← ez, List.length_map] at this
   exact this
  have hall : setsOf b = linesFrom 1 (zb z) ⟨[], []⟩ := by
   unfold setsOf
   rw [ez, linesFrom_part]
  have hsz : ∀ q ∈ z, q.2.length ≤ 65536 := fun q hq => by
   have := partA_size 10 b [] q.2 (by rw [← ez]; exact List.mem_map_of_mem hq)
   rw [List.length_nil] at this
   omega
  refine ⟨D, zr z, rfl, SqL.of l2, for_gen (n := z.length) (fun i σ G => ∃ st zc zu o2 o3, σ = [some (.ref a), some (.ref x), o2, o3] ∧ StIn t G x dx dc du zc zu st ∧ zc.length ≤ i ∧ setsOf b = linesFrom (i + 1) ((zb z).drop i) st ∧ Same H G ∧ G D = some (.lst (zr z)) ∧ ∀ q ∈ z, Ls G q.1 q.2) ?_ ?_ ?_ ?_ ?_⟩
  ·exact ⟨_, [], [], _, _, rfl, hst0.same s2, Nat.le_refl _, hall, s02, l2, hz⟩
  ·rintro i σ G hi ⟨st, zc, zu, o2, o3, rfl, hs, hzc, he, sH, hD, hq⟩
   exact ⟨_, _, SqL.of hD, List.getElem?_eq_getElem (by rw [List.length_map]; exact hi)⟩
  ·rintro σ G ⟨st, zc, zu, o2, o3, rfl, hs, hzc, he, sH, hD, hq⟩
   exact ⟨_, SqL.of hD, by rw [List.length_map]; exact Nat.le_refl _⟩
  ·rintro i σ G v G' hi ⟨st, zc, zu, o2, o3, rfl, hs, hzc, he, sH, hD, hq⟩ ⟨Tt, x1, rfl, nT, rfl, k1⟩
   have k1 := k1 _ (SqL.of hD)
   rw [List.getElem?_map, List.getElem?_eq_getElem hi] at k1
   have ex := (Option.some.inj k1).symm
   subst ex
   have hm : z[i] ∈ z := List.getElem_mem hi
   have sT : Same G (upd G Tt (.tup [.int ((i + 1 : Nat) : Int), .ref z[i].1])) := up nT
   have hTt : upd G Tt (.tup [.int ((i + 1 : Nat) : Int), .ref z[i].1]) Tt = some (.tup [.int ((i + 1 : Nat) : Int), .ref z[i].1]) := upd_same
   generalize upd G Tt (.tup [.int ((i + 1 : Nat) : Int), .ref z[i].1]) = G1 at sT hTt ⊢
   have sH1 := sH.trans sT
   have hs1 := hs.same sT
   have hq1 : ∀ q ∈ z, Ls G1 q.1 q.2 := fun q h => sT _ _ (hq q h)
   have hD1 := sT _ _ hD
   have ed : (zb z).drop i = z[i].2 :: (zb z).drop (i + 1) := by
    rw [List.drop_eq_getElem_cons (by rw [List.length_map]; exact hi)]
    congr 1
    exact List.getElem_map _
   rw [ed, linesFrom_cons, line_words2] at he
   have fail : (if okSigns z[i].2 = false then none else wordsIn st (wordsOf2 z[i].2)) = none → ∀ H', Same H H' → ∀ d, H' d = none → E (.ref t.cWrongLine) (some d) (upd H' d (.xd [("line_number", nV (i + 1))])) := by
    intro e H' s' d nd'
    rw [e] at he
    exact q2 (i + 1) he d _ (s'.free nd') (s'.trans (up nd')) upd_same
   refine ⟨Tt, _, rfl, SqT.of hTt, rfl, _, _, rfl, _, _, rfl, rfl, _, rfl, _, rfl, z[i].1, z[i].2, rfl, hq1 _ hm, (by have := hsz _ hm; omega), fun hok DD zw H3 nDD s3 hwd ezw => ?_, fun hno H' s' => ⟨rfl, rfl, _, rfl, fail (if_pos hno) H' (sH1.trans s')⟩⟩
   rw [if_neg (by rw [hok]; decide), ← ezw] at he fail
   refine ⟨x, DD, dx, dc, du, zc, zu, st, zw, rfl, hs1.same s3, hwd, by omega, fun st' est H4 zc' zu' off hst4 hl4 => ?_, fun hno H' s' => ⟨rfl, rfl, _, rfl, fail hno H' ((sH1.trans s3).trans s')⟩⟩
   rw [est] at he
   have hs3 := hs1.same s3
   have lsoff : ∀ {c : Addr} {l : List V}, H3 c = some (.lst l) → H4 c = some (.lst l) := fun {c l} h => off _ _ (ne_of h hs3.ci (by intro z; cases z)) (ne_of h hs3.us.di (by intro z; cases z)) h
   refine ⟨st', zc', zu', _, _, rfl, hst4, by omega, he, ?_, lsoff (s3 _ _ hD1), fun q h => lsoff (s3 _ _ (hq1 q h))⟩
   intro c o e
   exact off c o (fun z => by rw [z, ndc] at e; cases e) (fun z => by rw [z, ndu] at e; cases e) (s3 _ _ (sH1 _ _ e))
  ·rintro σ G ⟨st, zc, zu, o2, o3, rfl, hs, hzc, he, sH, hD, hq⟩
   rw [List.drop_of_length_le (by rw [List.length_map]; exact Nat.le_refl _)] at he
   exact ⟨_, rfl, q1 st he x dx dc du zc zu G sH hs⟩
end
end Dw
namespace Dw
open PySem L2 Sn37
structure Alien (H : Hp) (x : Addr) : Prop where
 nl : ∀ l, H x ≠ some (.lst l)
 nk : ∀ l, H x ≠ some (.dK l)
 nt : ∀ l, H x ≠ some (.dT l)
 ni : ∀ C dx fs, H x = some (.ins C dx fs) → fs.lookup ("kind" : Str) = none ∧ fs.lookup ("code" : Str) = none ∧ fs.lookup ("user_name" : Str) = none ∧ fs.lookup ("given" : Str) = none ∧ fs.lookup ("password" : Str) = none ∧ fs.lookup ("secrets" : Str) = none
theorem Alien.of_ins {H : Hp} {x C dx : Addr} {fs : List (Str × V)} (h : H x = some (.ins C dx fs)) (k1 : fs.lookup ("kind" : Str) = none) (k2 : fs.lookup ("code" : Str) = none) (k3 : fs.lookup ("user_name" : Str) = none) (k4 : fs.lookup ("given" : Str) = none) (k5 : fs.lookup ("password" : Str) = none) (k6 : fs.lookup ("secrets" : Str) = none) : Alien H x :=
 ⟨(fun l e => by rw [h] at e; cases e), (fun l e => by rw [h] at e; cases e), (fun l e => by rw [h] at e; cases e), fun C dx fs e => by rw [h] at e; cases e; exact ⟨k1, k2, k3, k4, k5, k6⟩⟩
theorem Alien.of_frz {H : Hp} {x : Addr} {o : Obj} {u : HO} (h : H x = some (.frz o u)) : Alien H x :=
 ⟨(fun l e => by rw [h] at e; cases e), (fun l e => by rw [h] at e; cases e), (fun l e => by rw [h] at e; cases e), fun C dx fs e => by rw [h] at e; cases e⟩
theorem Alien.lst {H H' : Hp} {x a : Addr} {l : List V} (al : Alien H x) (off : Off x H H') (h : H a = some (.lst l)) : H' a = some (.lst l) := off _ _ (fun e => al.nl l (e ▸ h)) h
theorem Alien.ins {H H' : Hp} {x a C dx : Addr} {fs : List (Str × V)} {f : Str} {v : V} (al : Alien H x) (off : Off x H H') (hn : ∀ C dx fs, H x = some (.ins C dx fs) → fs.lookup f = none) (h : H a = some (.ins C dx fs)) (hf : fs.lookup f = some v) : H' a = some (.ins C dx fs) :=
 off _ _ (fun e => by
  have := hn C dx fs (e ▸ h)
  rw [this] at hf
  cases hf) h
theorem off_ins {H H' : Hp} {x a C dx C' dx' : Addr} {fs fs' : List (Str × V)} {f : Str} {v : V} (off : Off x H H') (hx : H x = some (.ins C dx fs)) (hn : fs.lookup f = none) (h : H a = some (.ins C' dx' fs')) (hf : fs'.lookup f = some v) : H' a = some (.ins C' dx' fs') := by
 refine off a _ (fun e => ?_) h
 subst e
 rw [hx] at h
 cases h
 rw [hn] at hf
 cases hf
theorem off_lst {H H' : Hp} {x a C dx : Addr} {fs : List (Str × V)} {l : List V} (off : Off x H H') (hx : H x = some (.ins C dx fs)) (h : H a = some (.lst l)) : H' a = some (.lst l) := off _ _ (ne_of h hx (by intro z; cases z)) h
theorem AtAt.off {t : Adr} {H H' : Hp} {x a : Addr} {m : At3} (h : AtAt t H a m) (al : Alien H x) (off : Off x H H') : AtAt t H' a m := by
 obtain ⟨d, l, a1, a2⟩ := h
 exact ⟨d, l, al.ins off (fun _ _ _ e => (al.ni _ _ _ e).1) a1 fsAttribute_kind, al.lst off a2⟩
theorem PkAt.off {t : Adr} {H H' : Hp} {x a : Addr} {p : Packet} {z : Z3} (h : PkAt t H a p z) (al : Alien H x) (off : Off x H H') : PkAt t H' a p z := by
 obtain ⟨d, l1, l2, l3, a1, a2, a3, a4⟩ := h.ex
 exact ⟨h.ok, ⟨d, l1, l2, l3, al.ins off (fun _ _ _ e => (al.ni _ _ _ e).2.1) a1 fsPacket_code, al.lst off a2, al.lst off a3, al.lst off a4⟩, fun q hq => (h.at_ q hq).off al off, h.by1⟩
theorem UsAt.off {t : Adr} {H H' : Hp} {x a : Addr} {u : User} (h : UsAt t H a u) (al : Alien H x) (off : Off x H H') : UsAt t H' a u := by
 obtain ⟨d, l1, l2, a1, a2, a3⟩ := h
 exact ⟨d, l1, l2, al.ins off (fun _ _ _ e => (al.ni _ _ _ e).2.2.2.2.1) a1 fsUser_password, al.lst off a2, al.lst off a3⟩
theorem SeAt.off {t : Adr} {H H' : Hp} {x a : Addr} {u : Session} (h : SeAt t H a u) (al : Alien H x) (off : Off x H H') : SeAt t H' a u := by
 obtain ⟨d, l1, l2, a1, a2, a3⟩ := h
 exact ⟨d, l1, l2, al.ins off (fun _ _ _ e => (al.ni _ _ _ e).2.2.1) a1 fsSession_user_name, al.lst off a2, al.lst off a3⟩
theorem UsersAt.off {t : Adr} {H H' : Hp} {x du : Addr} {zu : ZU} (h : UsersAt t H du zu) (al : Alien H x) (off : Off x H H') : UsersAt t H' du zu := by
 exact ⟨off _ _ (fun e => al.nt _ (e ▸ h.di)) h.di, fun q hq => ⟨(h.us q hq).1.off al off, (h.us q hq).2⟩⟩
theorem SesAt.off {t : Adr} {H H' : Hp} {x ls : Addr} {zs : ZS} (h : SesAt t H ls zs) (al : Alien H x) (off : Off x H H') : SesAt t H' ls zs := by
 exact ⟨al.lst off h.li, fun q hq => (h.se q hq).off al off, h.mo⟩
theorem StIn.off {t : Adr} {H H' : Hp} {x y dx dc du : Addr} {zc : ZC} {zu : ZU} {s : Settings} (h : StIn t H y dx dc du zc zu s) (al : Alien H x) (off : Off x H H') : StIn t H' y dx dc du zc zu s := by
 exact ⟨al.ins off (fun _ _ _ e => (al.ni _ _ _ e).2.2.2.2.2) h.ob fsSettings_secrets, off _ _ (fun e => al.nk _ (e ▸ h.ci)) h.ci, fun q hq => ⟨al.lst off (h.cl q hq).1, (h.cl q hq).2⟩, h.us.off al off, h.ec, h.eu, h.un⟩
abbrev ZA := List (Addr × Said)
def SaAt (t : Adr) (H : Hp) (x : Addr) (s : Said) : Prop := ∃ dx la lg, H x = some (.ins t.cAnswered dx (fsAnswered (nV s.client) (nV s.id) (.ref la) (nV s.time) (.ref lg))) ∧ Ls H la s.auth ∧ Ls H lg s.bytes
theorem SaAt.same {t : Adr} {H H' : Hp} {x : Addr} {u : Said} (h : SaAt t H x u) (s : Same H H') : SaAt t H' x u := let ⟨dx, lp, lt, h1, h2, h3⟩ := h; ⟨dx, lp, lt, s _ _ h1, s _ _ h2, s _ _ h3⟩
theorem SaAt.off {t : Adr} {H H' : Hp} {x a : Addr} {u : Said} (h : SaAt t H a u) (al : Alien H x) (off : Off x H H') : SaAt t H' a u := by
 obtain ⟨d, l1, l2, a1, a2, a3⟩ := h
 exact ⟨d, l1, l2, al.ins off (fun _ _ _ e => (al.ni _ _ _ e).2.2.2.1) a1 fsAnswered_given, al.lst off a2, al.lst off a3⟩
structure SeOk (s : Session) : Prop where
 cl : s.client < 256
 ub : By s.user
 nb : By s.name
 ul : s.user.length ≤ 253
 nl : s.name.length ≤ 253
structure SvIn (t : Adr) (H : Hp) (x dx sx ls la sdx dc du : Addr) (zc : ZC) (zu : ZU) (zs : ZS) (za : ZA) (s : Server) : Prop where
 ob : H x = some (.ins t.cServer dx (fsServer (.ref sx) (.ref ls) (.ref la)))
 st : StIn t H sx sdx dc du zc zu s.settings
 se : SesAt t H ls zs
 es : s.sessions = zs.map (·.2)
 an : H la = some (.lst (za.map fun q => V.ref q.1))
 ap : ∀ q ∈ za, SaAt t H q.1 q.2
 ea : s.said = (za.map (·.2)).reverse
 am : za.length ≤ 16
 so : ∀ q ∈ s.sessions, SeOk q
 sb : ∀ q ∈ s.said, q.bytes.length ≤ 4096
def SvAt (t : Adr) (H : Hp) (x : Addr) (s : Server) : Prop := ∃ dx sx ls la sdx dc du zc zu zs za, SvIn t H x dx sx ls la sdx dc du zc zu zs za s
theorem SvIn.same {t : Adr} {H H' : Hp} {x dx sx ls la sdx dc du : Addr} {zc : ZC} {zu : ZU} {zs : ZS} {za : ZA} {s : Server} (h : SvIn t H x dx sx ls la sdx dc du zc zu zs za s) (k : Same H H') : SvIn t H' x dx sx ls la sdx dc du zc zu zs za s :=
 ⟨k _ _ h.ob, h.st.same k, h.se.same k, h.es, k _ _ h.an, fun q hq => (h.ap q hq).same k, h.ea, h.am, h.so, h.sb⟩
theorem SvIn.alien {t : Adr} {H : Hp} {x dx sx ls la sdx dc du : Addr} {zc : ZC} {zu : ZU} {zs : ZS} {za : ZA} {s : Server} (h : SvIn t H x dx sx ls la sdx dc du zc zu zs za s) : Alien H x :=
 .of_ins h.ob (fsServer_no _) (fsServer_no _) (fsServer_no _) (fsServer_no _) (fsServer_no _) (fsServer_no _)
theorem SvAt.same {t : Adr} {H H' : Hp} {x : Addr} {s : Server} (h : SvAt t H x s) (k : Same H H') : SvAt t H' x s := by
 obtain ⟨dx, sx, ls, la, sdx, dc, du, zc, zu, zs, za, h⟩ := h
 exact ⟨dx, sx, ls, la, sdx, dc, du, zc, zu, zs, za, h.same k⟩
theorem SvAt.off {t : Adr} {H H' : Hp} {x y : Addr} {s : Server} (h : SvAt t H y s) (al : Alien H x) (hn : ∀ C dx fs, H x = some (.ins C dx fs) → fs.lookup ("sessions" : Str) = none) (off : Off x H H') : SvAt t H' y s := by
 obtain ⟨dx, sx, ls, la, sdx, dc, du, zc, zu, zs, za, h⟩ := h
 exact ⟨dx, sx, ls, la, sdx, dc, du, zc, zu, zs, za, al.ins off hn h.ob fsServer_sessions, h.st.off al off, h.se.off al off, h.es, al.lst off h.an, fun q hq => (h.ap q hq).off al off, h.ea, h.am, h.so, h.sb⟩
section
variable {P : Program} {w : World} {K : PySem.W.Frag} {mg : Str → Option Value} {base : Heap} {t : Adr}
def spIAnswered (t : Adr) : Sp := fun vs H Q _ => ∃ x dx px p z lg, ∃ c now : Nat, vs = [.ref x, nV c, .ref px, nV now, .ref lg] ∧ H x = some (.ins t.cAnswered dx []) ∧ PkAt t H px p z ∧
 ∀ la H', Ls H la p.auth → Stored H H' x (.ins t.cAnswered dx (fsAnswered (nV c) (nV p.id) (.ref la) (nV now) (.ref lg))) → Q .non H'
theorem sc_iAnswered : FnScope ["self", "client", "packet", "now", "given"] ["self", "client", "packet", "now", "given"] (defScope (inClass (top 71) 0)) := ⟨rfl, rfl, rfl, by decide +kernel, rfl, by decide +kernel, by decide +kernel⟩
theorem ok_iAnswered (T : Txt K mg t) : FnOk P w K mg base CX0 1 t.iAnswered.a t.iAnswered.fd ["self", "client", "packet", "now", "given"] (spIAnswered t) := by
 refine T.server.iAnswered.fn.ok sc_iAnswered (fun vs H Q E h => ?_) (fun cdv A outer s H vs Q E hr h => ?_)
 ·obtain ⟨x, dx, px, p, z, lg, c, now, rfl, _⟩ := h
  rfl
 ·obtain ⟨x, dx, px, p, z, lg, c, now, rfl, hx, pk, q⟩ := h
  obtain ⟨dp, ld, la, lm, h1, h2, h3, h4⟩ := pk.ex
  have kl := T.server.cAnswered
  have kp := T.packets.cPacket
  have pnx : px ≠ x := fun e => by
   rw [e, hx] at h1
   have h1 : ([] : List (Str × V)) = _ := (HO.ins.inj (Option.some.inj h1)).2.2
   have := fsPacket_code (v0 := .ref ld) (v1 := nV p.code) (v2 := nV p.id) (v3 := .ref la) (v4 := .ref lm)
   rw [← h1] at this
   cases this
  refine ⟨_, (pss_cons (ps_fld (pv 0) (pv 1) rfl)
   (pss_cons (ps_fld (pv 0) (fldK K (pv 2) rfl) rfl)
   (pss_cons (ps_fld (pv 0) (fldK K (pv 2) rfl) rfl)
   (pss_cons (ps_fld (pv 0) (pv 3) rfl)
   (pss_one (ps_fld (pv 0) (pv 4) rfl)))))), ?_⟩
  refine ⟨_, rfl, _, rfl, x, _, dx, [], rfl, hx, kl.cl, na kl _, by show 0 < 1000; decide, ?_⟩
  refine ⟨_, rfl, px, _, dp, _, _, rfl, (by rw [upd_ne pnx]; exact h1), kp.cl, na kp _, fsPacket_number, _, rfl, x, _, dx, _, rfl, upd_same, kl.cl, na kl _, by show 1 < 1000; decide, ?_⟩
  rw [upd_upd]
  refine ⟨_, rfl, px, _, dp, _, _, rfl, (by rw [upd_ne pnx]; exact h1), kp.cl, na kp _, fsPacket_authenticator, _, rfl, x, _, dx, _, rfl, upd_same, kl.cl, na kl _, ?_, ?_⟩
  ·exact Nat.lt_of_le_of_lt (length_putF _ _ _) (by show 1 + 1 < 1000; decide)
  rw [upd_upd]
  refine ⟨_, rfl, _, rfl, x, _, dx, _, rfl, upd_same, kl.cl, na kl _, ?_, ?_⟩
  ·exact Nat.lt_of_le_of_lt (length_putF _ _ _) (Nat.lt_of_le_of_lt (Nat.add_le_add_right (length_putF _ _ _) 1) (by show 1 + 1 + 1 < 1000; decide))
  rw [upd_upd]
  refine ⟨_, rfl, _, rfl, x, _, dx, _, rfl, upd_same, kl.cl, na kl _, ?_, ?_⟩
  ·exact Nat.lt_of_le_of_lt (length_putF _ _ _) (Nat.lt_of_le_of_lt (Nat.add_le_add_right (length_putF _ _ _) 1) (Nat.lt_of_le_of_lt (Nat.add_le_add_right (Nat.add_le_add_right (length_putF _ _ _) 1) 1) (by show 1 + 1 + 1 + 1 < 1000; decide)))
  rw [upd_upd]
  refine q la _ h3 ⟨upd_same, fun b u e hb => ?_⟩
  rw [upd_ne hb]
  exact e
def fitsB (s : Said) (c : Nat) (p : Packet) (now : Nat) : Bool := s.client == c && (s.id == p.id && (s.auth == p.auth && decide (s.time ≤ now ∧ now - s.time ≤ AGAIN)))
def spFits (t : Adr) : Sp := fun vs H Q _ => ∃ x px p z s, ∃ c now : Nat, vs = [.ref x, nV c, .ref px, nV now] ∧ SaAt t H x s ∧ PkAt t H px p z ∧ Q (.bl (fitsB s c p now)) H
theorem sc_fits : FnScope ["self", "client", "packet", "now"] ["self", "client", "packet", "now"] (defScope (inClass (top 71) 1)) := ⟨rfl, rfl, rfl, by decide +kernel, rfl, by decide +kernel, by decide +kernel⟩
theorem ok_answered_fits (T : Txt K mg t) : FnOk P w K mg base CX0 1 t.answered_fits.a t.answered_fits.fd ["self", "client", "packet", "now"] (spFits t) := by
 refine T.server.answered_fits.fn.ok sc_fits (fun vs H Q E h => ?_) (fun cdv A outer s H vs Q E hr h => ?_)
 ·obtain ⟨x, px, p, z, sd, c, now, rfl, _⟩ := h
  rfl
 ·obtain ⟨x, px, p, z, sd, c, now, rfl, ⟨dx, la, lg, a1, a2, a3⟩, pk, q⟩ := h
  obtain ⟨dp, ld, lpa, lm, h1, h2, h3, h4⟩ := pk.ex
  have kl := T.server.cAnswered
  have kp := T.packets.cPacket
  refine ⟨_, (pss_one (ps_ret (pe_and (pe_cmpR o_eq (fldK K (pv 0) rfl) (pv 1) (nomark _)) (pe_and (pe_cmpR o_eq (fldK K (pv 0) rfl) (fldK K (pv 2) rfl) (nomark _)) (pe_and (pe_cmpR (o_eqN K hr.units) (fldK K (pv 0) rfl) (fldK K (pv 2) rfl) (nomark _)) (pe_one (pe_chain op_le op_le pe_int (pe_op op_sub (pv 3) (fldK K (pv 0) rfl)) (gN T "KEPT_SECONDS" 30)))))))), ?_⟩
  unfold fitsB at q
  rw [beq_dec, show (sd.client == c) = decide (sd.client = c) from rfl, show (sd.id == p.id) = decide (sd.id = p.id) from rfl] at q
  refine ⟨_, rfl, x, _, dx, _, _, rfl, a1, kl.cl, na kl _, fsAnswered_client, _, rfl, _, _, rfl, rfl, _, rfl, ite2 (fun e => ?_) (fun e => ?_)⟩
  rotate_left
  ·rw [Bool.eq_false_iff.mpr e, Bool.false_and] at q
   exact q
  rw [e, Bool.true_and] at q
  refine ⟨_, rfl, x, _, dx, _, _, rfl, a1, kl.cl, na kl _, fsAnswered_number, _, rfl, px, _, dp, _, _, rfl, h1, kp.cl, na kp _, fsPacket_number, _, _, rfl, rfl, _, rfl, ite2 (fun e => ?_) (fun e => ?_)⟩
  rotate_left
  ·rw [Bool.eq_false_iff.mpr e, Bool.false_and] at q
   exact q
  rw [e, Bool.true_and] at q
  refine ⟨_, rfl, x, _, dx, _, _, rfl, a1, kl.cl, na kl _, fsAnswered_authenticator, _, rfl, px, _, dp, _, _, rfl, h1, kp.cl, na kp _, fsPacket_authenticator, _, _, _, _, rfl, rfl, SqL.of a2, SqL.of h3, _, rfl, ite2 (fun e => ?_) (fun e => ?_)⟩
  rotate_left
  ·rw [Bool.eq_false_iff.mpr e, Bool.false_and] at q
   exact q
  rw [e, Bool.true_and] at q
  refine ⟨_, rfl, _, rfl, x, _, dx, _, _, rfl, a1, kl.cl, na kl _, fsAnswered_now, _, _, rfl, rfl, _, _, rfl, rfl, _, rfl, ite2 (fun e => ?_) (fun e => ?_)⟩
  ·have e := of_decide_eq_true e
   refine ⟨_, _, rfl, rfl, ?_⟩
   refine cast ?_ q
   congr 2
   refine decide_eq_decide.mpr ⟨fun h => ?_, fun h => ?_⟩
   ·have := h.2
    show ((now : Nat) : Int) - (sd.time : Nat) ≤ 30
    have : now - sd.time ≤ 30 := this
    omega
   ·have h : ((now : Nat) : Int) - (sd.time : Nat) ≤ 30 := h
    have e : (0 : Int) ≤ ((now : Nat) : Int) - (sd.time : Nat) := e
    refine ⟨by omega, ?_⟩
    show now - sd.time ≤ 30
    omega
  ·have e : ¬ (0 : Int) ≤ ((now : Nat) : Int) - (sd.time : Nat) := fun z => e (decide_eq_true z)
   rw [decide_eq_false (fun h => e (by have := h.1; omega))] at q
   exact q
def spIServer (t : Adr) : Sp := fun vs H Q _ => ∃ x dx a, vs = [.ref x, a] ∧ H x = some (.ins t.cServer dx []) ∧ ∀ ls la H', H' ls = some (.lst []) → H' la = some (.lst []) → Stored H H' x (.ins t.cServer dx (fsServer a (.ref ls) (.ref la))) → Q .non H'
theorem sc_iServer : FnScope ["self", "settings"] ["self", "settings"] (defScope (inClass (top 72) 0)) := ⟨rfl, rfl, rfl, by decide +kernel, rfl, by decide +kernel, by decide +kernel⟩
theorem ok_iServer (T : Txt K mg t) : FnOk P w K mg base CX0 1 t.iServer.a t.iServer.fd ["self", "settings"] (spIServer t) := by
 refine T.server.iServer.fn.ok sc_iServer (fun vs H Q E h => ?_) (fun cdv A outer s H vs Q E hr h => ?_)
 ·obtain ⟨x, dx, a, rfl, _⟩ := h
  rfl
 ·obtain ⟨x, dx, a, rfl, hx, q⟩ := h
  have kl := T.server.cServer
  refine ⟨_, (pss_cons (ps_fld (pv 0) (pv 1) rfl)
   (pss_cons (ps_fld (pv 0) (pe_lst pa_nil) rfl)
   (pss_one (ps_fld (pv 0) (pe_lst pa_nil) rfl)))), ?_⟩
  refine ⟨_, rfl, _, rfl, x, _, dx, [], rfl, hx, kl.cl, na kl _, by show 0 < 1000; decide, ?_⟩
  have e1 := upd_same (H := H) (a := x) (o := .ins t.cServer dx (putF "settings" a []))
  have o1 : ∀ b u, H b = some u → b ≠ x → upd H x (.ins t.cServer dx (putF "settings" a [])) b = some u := fun b u e hb => by rw [upd_ne hb]; exact e
  generalize upd H x (.ins t.cServer dx (putF "settings" a [])) = H1 at e1 o1 ⊢
  refine ⟨(by show 0 ≤ sizeLine; decide), fun ls nls => ?_⟩
  have e2 := (up (o := .lst []) nls) _ _ e1
  have el : upd H1 ls (.lst []) ls = some (.lst []) := upd_same
  have o2 : ∀ b u, H b = some u → b ≠ x → upd H1 ls (.lst []) b = some u := fun b u e hb => (up nls) _ _ (o1 b u e hb)
  generalize upd H1 ls (.lst []) = H2 at e2 el o2 ⊢
  refine ⟨_, rfl, x, _, dx, _, rfl, e2, kl.cl, na kl _, by show 1 < 1000; decide, ?_⟩
  have lx : ls ≠ x := ne_of el e2 (by intro z; cases z)
  have e3 := upd_same (H := H2) (a := x) (o := .ins t.cServer dx (putF "sessions" (.ref ls) (putF "settings" a [])))
  have el3 : upd H2 x (.ins t.cServer dx (putF "sessions" (.ref ls) (putF "settings" a []))) ls = some (.lst []) := by rw [upd_ne lx]; exact el
  have o3 : ∀ b u, H b = some u → b ≠ x → upd H2 x (.ins t.cServer dx (putF "sessions" (.ref ls) (putF "settings" a []))) b = some u := fun b u e hb => by rw [upd_ne hb]; exact o2 b u e hb
  generalize upd H2 x (.ins t.cServer dx (putF "sessions" (.ref ls) (putF "settings" a []))) = H3 at e3 el3 o3 ⊢
  refine ⟨(by show 0 ≤ sizeLine; decide), fun la nla => ?_⟩
  have e4 := (up (o := .lst []) nla) _ _ e3
  have lax : la ≠ x := ne_of (H := upd H3 la (.lst [])) upd_same e4 (by intro z; cases z)
  refine ⟨_, rfl, x, _, dx, _, rfl, e4, kl.cl, na kl _, ?_, ?_⟩
  ·exact Nat.lt_of_le_of_lt (length_putF _ _ _) (by show 1 + 1 < 1000; decide)
  ·refine q ls la _ ?_ ?_ ⟨upd_same, fun b u e hb => ?_⟩
   ·rw [upd_ne lx]
    exact (up nla) _ _ el3
   ·rw [upd_ne lax, upd_same]
   ·rw [upd_ne hb]
    exact (up nla) _ _ (o3 b u e hb)
end
end Dw
namespace Dw
open PySem L2 Sn37
theorem attr_len : ∀ {m : List At3} {d : Bytes}, d = attrBytes (m.map two) → (∀ c ∈ d, c < 256) → ∀ a ∈ m, a.2.2.length ≤ 253
 | [], _, _, _, a, ha => absurd ha List.not_mem_nil
 | b :: m, d, e, h, a, ha => by
  have e2 : d = (b.1 :: (b.2.2.length + 2) :: b.2.2) ++ attrBytes (m.map two) := e
  rcases List.mem_cons.mp ha with rfl | ha
  ·have := h (a.2.2.length + 2) (by rw [e2]; exact List.mem_append.mpr (.inl (List.mem_cons_of_mem _ List.mem_cons_self)))
   omega
  ·exact attr_len rfl (fun c hc => h c (by rw [e2]; exact List.mem_append.mpr (.inr hc))) a ha
theorem PkAt.one_ok {t : Adr} {H : Hp} {x : Addr} {p : Packet} {z : Z3} (h : PkAt t H x p z) {k : Nat} {b : Bytes} (hb : p.one k = some b) : By b ∧ b.length ≤ 253 := by
 have hm : b ∈ p.all k := by
  unfold Packet.one at hb
  split at hb
  ·rename_i c e
   rw [e, Option.some.inj hb]
   exact List.mem_singleton.mpr rfl
  ·cases hb
 refine ⟨(h.byk hm).1, ?_⟩
 rw [h.all] at hm
 obtain ⟨q, hq, rfl⟩ := List.mem_map.mp hm
 exact attr_len h.ok.rest.symm.symm (fun c hc => h.ok.by_ c (List.mem_of_mem_drop hc)) q.2 (List.mem_map_of_mem (List.mem_filter.mp hq).1)
theorem after_ok {t : Adr} {H : Hp} {x : Addr} {p : Packet} {z : Z3} (h : PkAt t H x p z) {ss ss' : List Session} {c : Nat} (ho : ∀ q ∈ ss, SeOk q) (hc : c < 256) (hl : ss.length ≤ 64) (e : after ss c p = some ss') : (∀ q ∈ ss', SeOk q) ∧ ss'.length ≤ 64 := by
 have hf : ∀ f : Session → Bool, (∀ q ∈ ss.filter f, SeOk q) ∧ (ss.filter f).length ≤ 64 := fun f => ⟨fun q hq => ho q (List.mem_filter.mp hq).1, Nat.le_trans (List.length_filter_le _ _) hl⟩
 unfold after at e
 split at e
 ·rename_i k _
  split at e
  ·rw [← Option.some.inj e]
   exact hf _
  ·unfold after2 at e
   split at e
   ·rename_i u n e1 e2
    split at e
    ·split at e
     ·rw [← Option.some.inj e]
      exact ⟨ho, hl⟩
     ·split at e
      ·cases e
      ·rename_i hn
       rw [← Option.some.inj e]
       refine ⟨fun q hq => ?_, ?_⟩
       ·rcases List.mem_append.mp hq with hq | hq
        ·exact ho q hq
        ·rw [List.mem_singleton.mp hq]
         exact ⟨hc, (h.one_ok e1).1, (h.one_ok e2).1, (h.one_ok e1).2, (h.one_ok e2).2⟩
       ·rw [List.length_append]
        have hn : ¬ 64 ≤ ss.length := hn
        show _ + 1 ≤ 64
        omega
    ·split at e
     ·rw [← Option.some.inj e]
      exact hf _
     ·cases e
   ·cases e
 ·cases e
def acc0 (ss : List Session) (c : Nat) (p : Packet) (secret : Bytes) : Option (List Session) :=
 if p.auth ≠ md5 (p.whole.take 4 ++ (List.replicate 16 0 ++ (p.whole.drop 20 ++ secret))) ∨ signed p (List.replicate 16 0) secret = false then none else after ss c p
theorem after_st {ss : List Session} {c k : Nat} {p : Packet} (hk : p.one 40 = some [0, 0, 0, k]) : after ss c p = if k = 7 ∨ k = 8 then some (ss.filter fun x => x.client != c) else after2 ss c k (p.one 1) (p.one 44) := by
 unfold after
 rw [hk]
 rfl
theorem after_no {ss : List Session} {c : Nat} {p : Packet} (h : ∀ k, p.one 40 ≠ some [0, 0, 0, k]) : after ss c p = none := by
 unfold after
 split
 ·rename_i k e
  exact absurd e (h k)
 ·rfl
theorem account_eq (s : Server) (c : Nat) (p : Packet) (secret : Bytes) : account s c p secret = match acc0 s.sessions c p secret with | none => (s, none) | some ss => ({ s with sessions := ss }, some (answer p secret 5 [])) := by
 unfold account acc0
 by_cases hb : p.auth ≠ md5 (p.whole.take 4 ++ (List.replicate 16 0 ++ (p.whole.drop 20 ++ secret))) ∨ signed p (List.replicate 16 0) secret = false
 ·rw [if_pos hb, if_pos hb]
 rw [if_neg hb, if_neg hb]
 by_cases hk : ∃ k, p.one 40 = some [0, 0, 0, k]
 ·obtain ⟨k, hk⟩ := hk
  rw [after_st hk, hk]
  show (if k = 7 ∨ k = 8 then _ else _) = _
  by_cases h1 : k = 7 ∨ k = 8
  ·rw [if_pos h1, if_pos h1]
  rw [if_neg h1, if_neg h1]
  unfold after2
  generalize p.one 1 = o1
  generalize p.one 44 = o44
  cases o1 with
  | none => rfl
  | some u =>
   cases o44 with
   | none => rfl
   | some n =>
    dsimp only
    by_cases h2 : k = 1 ∨ k = 3
    ·rw [if_pos h2, if_pos h2]
     by_cases h3 : s.sessions.contains ⟨u, c, n⟩ = true
     ·rw [if_pos h3, if_pos h3]
     rw [if_neg h3, if_neg h3]
     by_cases h4 : SESSIONS ≤ s.sessions.length
     ·rw [if_pos h4, if_pos h4]
     rw [if_neg h4, if_neg h4]
    ·rw [if_neg h2, if_neg h2]
     by_cases h3 : k = 2
     ·rw [if_pos h3, if_pos h3]
     rw [if_neg h3, if_neg h3]
 ·rw [after_no (fun k e => hk ⟨k, e⟩)]
  split
  ·rename_i k e
   exact (hk ⟨k, e⟩).elim
  ·rfl
def cameR (s : Server) (c now : Nat) (b : Bytes) : Option (Server × Bytes) := match (s.settings.clients.find? fun x => x.1 == c), packet b with
 | some (_, secret), some p => if p.code ≠ 1 ∧ p.code ≠ 4 then none else match s.said.find? (fun x => fitsB x c p now) with
  | some x => some (s, x.bytes)
  | none => (if p.code = 1 then (access s p secret).map (fun r => (s.sessions, r)) else (acc0 s.sessions c p secret).map fun ss => (ss, answer p secret 5 [])).bind fun q =>
   if 4096 < q.2.length then none else some ({ s with sessions := q.1, said := (⟨c, p.id, p.auth, now, q.2⟩ :: s.said).take SAID }, q.2)
 | _, _ => none
theorem came_eq (s : Server) (c now : Nat) (b : Bytes) : came s c now b = (cameR s c now b).getD (s, []) := by
 unfold came cameR
 generalize s.settings.clients.find? (fun x => x.1 == c) = oc
 generalize packet b = op
 cases oc with
 | none => rfl
 | some cs =>
  obtain ⟨c0, secret⟩ := cs
  cases op with
  | none => rfl
  | some p =>
   dsimp only
   by_cases h1 : p.code ≠ 1 ∧ p.code ≠ 4
   ·rw [if_pos h1, if_pos h1]
    rfl
   rw [if_neg h1, if_neg h1]
   show (match s.said.find? (fun x => fitsB x c p now) with | some x => (s, x.bytes) | none => _) = _
   cases s.said.find? (fun x => fitsB x c p now) with
   | some x => rfl
   | none =>
    dsimp only
    by_cases h2 : p.code = 1
    ·rw [if_pos h2, if_pos h2]
     dsimp only
     cases access s p secret with
     | none => rfl
     | some r =>
      dsimp only
      by_cases h3 : 4096 < r.length
      ·rw [if_pos h3]
       show _ = ((if 4096 < r.length then _ else _ : Option (Server × Bytes))).getD _
       rw [if_pos h3]
       rfl
      ·rw [if_neg h3]
       show _ = ((if 4096 < r.length then _ else _ : Option (Server × Bytes))).getD _
       rw [if_neg h3]
       rfl
    ·rw [if_neg h2, if_neg h2, account_eq]
     cases acc0 s.sessions c p secret with
     | none => rfl
     | some ss =>
      dsimp only
      by_cases h3 : 4096 < (answer p secret 5 []).length
      ·rw [if_pos h3]
       show _ = ((if 4096 < (answer p secret 5 []).length then _ else _ : Option (Server × Bytes))).getD _
       rw [if_pos h3]
       rfl
      ·rw [if_neg h3]
       show _ = ((if 4096 < (answer p secret 5 []).length then _ else _ : Option (Server × Bytes))).getD _
       rw [if_neg h3]
       rfl
end Dw
namespace Dw
open PySem L2 Sn37
section
variable {P : Program} {w : World} {K : PySem.W.Frag} {mg : Str → Option Value} {base : Heap} {t : Adr}
def spAccount (t : Adr) : Sp := fun vs H Q E => ∃ x px ls p z s, ∃ (c : Nat) (secret : List Nat), vs = [.ref x, nV c, .ref px, .ref ls] ∧ SvAt t H x s ∧ PkAt t H px p z ∧ Ls H ls secret ∧ secret.length ≤ 64 ∧ By secret ∧ c < 256 ∧
 (∀ ss, acc0 s.sessions c p secret = some ss → (answer p secret 5 []).length ≤ 4096 → ∀ lg H', Off x H H' → SvAt t H' x { s with sessions := ss } → Ls H' lg (answer p secret 5 []) → Q (.ref lg) H') ∧
 (acc0 s.sessions c p secret = none ∨ 4096 < (answer p secret 5 []).length → NoA t H E)
theorem sc_account : FnScope ["self", "client", "packet", "secret", "sessions", "given"] ["self", "client", "packet", "secret"] (defScope (inClass (top 72) 2)) := ⟨rfl, rfl, rfl, by decide +kernel, rfl, by decide +kernel, by decide +kernel⟩
theorem ok_server_account (T : Txt K mg t) : FnOk P w K mg base (CXF P w) 7 t.server_account.a t.server_account.fd ["self", "client", "packet", "secret"] (spAccount t) := by
 refine T.server.server_account.fn.okX sc_account (fun vs H Q E h => ?_) (fun cdv A outer s H vs Q E hr h => ?_)
 ·obtain ⟨x, px, ls, p, z, sv, c, secret, rfl, _⟩ := h
  rfl
 ·obtain ⟨x, px, ls, p, z, sv, c, secret, rfl, ⟨dx, sx, lse, la, sdx, dc, du, zc, zu, zs, za, hv⟩, pk, hs, hsl, hsb, hc, q1, q2⟩ := h
  have kv := T.server.cServer
  refine ⟨_, (pss_cons (ps_expr (callX (ok_check_accounting T) T.accounting.check_accounting hr passF (pa_cons (pv 2) (pa_cons (pv 3) pa_nil))))
   (pss_cons (ps_set (i := 4) sc_account.nd rfl (Or.inl rfl) (callX (ok_sessions_after T) T.accounting.sessions_after hr passF (pa_cons (pv 2) (pa_cons (pv 1) (pa_cons (fldK K (pv 0) rfl) pa_nil)))))
   (pss_cons (ps_set (i := 5) sc_account.nd rfl (Or.inl rfl) (callX (ok_make_answer T) T.packets.make_answer hr passF (pa_cons (pv 2) (pa_cons (pv 3) (pa_cons (gN T "ACCOUNTED" 5) (pa_cons (pe_lst pa_nil) pa_nil))))))
   (pss_cons (ps_fld (pv 0) (pv 4) rfl)
   (pss_one (ps_ret (pv 5))))))), ?_⟩
  refine ⟨_, rfl, _, rfl, px, ls, p, z, secret, rfl, pk, hs, hsl, hsb, fun ha hsg H1 s1 => ?_, fun hb => q2 (.inl (if_pos hb))⟩
  have eacc : acc0 sv.sessions c p secret = after (zs.map (·.2)) c p := by
   unfold acc0
   rw [if_neg (fun h => by rcases h with h | h; exact h ha; rw [hsg] at h; cases h), hv.es]
  rw [eacc] at q1 q2
  refine ⟨_, rfl, _, rfl, _, rfl, x, _, dx, _, _, rfl, s1 _ _ hv.ob, kv.cl, na kv _, fsServer_sessions, px, lse, p, z, zs, c, rfl, pk.same s1, hv.se.same s1, fun ss ess l zs' H2 n2 s2 l2 hse2 ez => ?_, fun hn H' s' => q2 (.inl hn) H' (s1.trans s')⟩
  have s02 := s1.trans s2
  have hao := after_ok pk (by rw [← hv.es]; exact hv.so) hc (by rw [List.length_map]; exact hv.se.mo) ess
  refine ⟨_, rfl, _, rfl, (by show 0 ≤ sizeLine; decide), fun pl npl => ?_⟩
  have s3 : Same H2 (upd H2 pl (.lst [])) := up npl
  have s03 := s02.trans s3
  refine ⟨px, ls, pl, p, z, secret, 5, [], rfl, pk.same s03, s03 _ _ hs, hsl, hsb, by decide, upd_same, by decide, fun c hc => absurd hc List.not_mem_nil, fun hle lg H4 n4 s4 l4 => ?_, fun hle H' s' => q2 (.inr (by rw [answer_length]; exact hle)) H' (s03.trans s')⟩
  have s04 := s03.trans s4
  have hv4 := hv.same s04
  refine ⟨_, rfl, _, rfl, x, _, dx, _, rfl, hv4.ob, kv.cl, na kv _, fsServer_len, ?_⟩
  rw [fsServer_put_sessions]
  have off : Off x H4 (upd H4 x (.ins t.cServer dx (fsServer (.ref sx) (.ref l) (.ref la)))) := fun b u hb e => by rw [upd_ne hb]; exact e
  have al := hv4.alien
  refine ⟨_, rfl, q1 ss ess (by rw [answer_length]; exact hle) lg _ (off.of s04) ?_ (off_lst off hv4.ob l4)⟩
  have hse4 : SesAt t H4 l zs' := ⟨s4 _ _ (s3 _ _ l2), fun q hq => (hse2 q hq).same (s3.trans s4), by have := hao.2; rw [← ez, List.length_map] at this; exact this⟩
  exact ⟨dx, sx, l, la, sdx, dc, du, zc, zu, zs', za, upd_same, hv4.st.off al off, hse4.off al off, ez.symm, off_lst off hv4.ob hv4.an, fun q hq => (hv4.ap q hq).off al off, hv4.ea, hv4.am, hao.1, hv4.sb⟩
def spSAnswer (t : Adr) : Sp := fun vs H Q E => ∃ x ld s, ∃ (c now : Nat) (b : List Nat), vs = [.ref x, nV c, nV now, .ref ld] ∧ SvAt t H x s ∧ Ls H ld b ∧ By b ∧
 (∀ s' r, cameR s c now b = some (s', r) → r.length ≤ 4096 → ∀ lg H', Off x H H' → SvAt t H' x s' → Ls H' lg r → Q (.ref lg) H') ∧ (cameR s c now b = none → NoA t H E)
theorem sc_sanswer : FnScope ["self", "client", "now", "data", "packet", "past", "secret", "given"] ["self", "client", "now", "data"] (defScope (inClass (top 72) 1)) := ⟨rfl, rfl, rfl, by decide +kernel, rfl, by decide +kernel, by decide +kernel⟩
theorem find_at {α : Type} {R : List α} {f : α → Bool} {i : Nat} {q : α} (h : R[i]? = some q) (hf : f q = true) (hn : ∀ x ∈ R.take i, f x = false) : R.find? f = some q := by
 obtain ⟨hi, e⟩ := List.getElem?_eq_some_iff.mp h
 have e2 : R = R.take i ++ (q :: R.drop (i + 1)) := by
  rw [← e, ← List.drop_eq_getElem_cons hi, List.take_append_drop]
 rw [e2, List.find?_append, List.find?_eq_none.mpr (fun x hx => by rw [hn x hx]; decide), List.find?_cons_of_pos hf]
 rfl
theorem find_c (zc : ZC) (c : Nat) : (zc.map fun q => (q.1, q.2.2)).find? (fun x => x.1 == c) = (zc.find? fun q => q.1 == c).map fun q => (q.1, q.2.2) := by
 rw [List.find?_map]
 rfl
theorem ok_server_answer (T : Txt K mg t) : FnOk P w K mg base (CXF P w) 8 t.server_answer.a t.server_answer.fd ["self", "client", "now", "data"] (spSAnswer t) := by
 refine T.server.server_answer.fn.okX sc_sanswer (fun vs H Q E h => ?_) (fun cdv A outer s H vs Q E hr h => ?_)
 ·obtain ⟨x, ld, sv, c, now, b, rfl, _⟩ := h
  rfl
 ·obtain ⟨x, ld, sv, c, now, b, rfl, ⟨dx, sx, lse, la, sdx, dc, du, zc, zu, zs, za, hv⟩, hd, hby, q1, q2⟩ := h
  have kv := T.server.cServer
  have kst := T.settings.cSettings
  have kp := T.packets.cPacket
  have kan := T.server.cAnswered
  refine ⟨_, (pss_cons (ps_set (i := 4) sc_sanswer.nd rfl (Or.inl rfl) (callX (ok_read_packet T) T.packets.read_packet hr passF (pa_cons (pv 3) pa_nil)))
   (pss_cons (ps_if ((pw_or (pt_cmp (pc_dnotin (hu1 hr) (pv 1) (fldK K (fldK K (pv 0) rfl) rfl))) (pw_or1 (pt_cmpR op_notIn_seq (fldK K (pv 4) rfl) (pe_tup (pa_cons (gN T "ACCESS" 1) (pa_cons (gN T "ACCOUNTING" 4) pa_nil))) rfl)))).pt
   (pss_one (ps_raise T.packets.cNoAnswer hr rfl))
   pss_nil)
   (pss_cons (ps_for own_pass rfl (pi_reversed rfl (bl_in T "reversed") (pa_cons (fldK K (pv 0) rfl) pa_nil)) (pg_name (i := 5) sc_sanswer.nd rfl (Or.inl rfl))
   (pss_one (ps_if (pt_truth (methN (pv 5) T.server.cAnswered.cl T.server.answered_fits (ok_answered_fits T) hr (pa_cons (pv 1) (pa_cons (pv 4) (pa_cons (pv 2) pa_nil)))) (fun _ => rfl))
    (pss_one (ps_ret (fldK K (pv 5) rfl)))
    pss_nil)))
   (pss_cons (ps_set (i := 6) sc_sanswer.nd rfl (Or.inl rfl) (pe_dget (hu1 hr) (fldK K (fldK K (pv 0) rfl) rfl) (pv 1) (fun _ _ => rfl)))
   (pss_cons (ps_if (pt_cmpR o_eq (fldK K (pv 4) rfl) (gN T "ACCESS" 1) (nomark _))
   (pss_one (ps_set (i := 7) sc_sanswer.nd rfl (Or.inl rfl) (callX (ok_answer_access T) T.access.answer_access hr passF (pa_cons (pv 4) (pa_cons (pv 6) (pa_cons (fldK K (fldK K (pv 0) rfl) rfl) (pa_cons (fldK K (pv 0) rfl) pa_nil)))))))
   (pss_one (ps_set (i := 7) sc_sanswer.nd rfl (Or.inl rfl) (methX (pv 0) T.server.cServer.cl T.server.server_account (ok_server_account T) hr passF (pa_cons (pv 1) (pa_cons (pv 4) (pa_cons (pv 6) pa_nil)))))))
   (pss_cons (ps_fld (pv 0) (pe_op op_cat (pe_slice (sl_vk K) (fldK K (pv 0) rfl) (po_some (pe_op op_sub pe_int (gN T "KEPT_ANSWERS" 16))) po_none) (pe_lst (pa_cons (makeN T.server.cAnswered T.server.iAnswered (ok_iAnswered T) hr (pa_cons (pv 1) (pa_cons (pv 4) (pa_cons (pv 2) (pa_cons (pv 7) pa_nil))))) pa_nil))) rfl)
   (pss_one (ps_ret (pv 7))))))))), ?_⟩
  have ecl : sv.settings.clients.find? (fun x => x.1 == c) = (zc.find? fun q => q.1 == c).map fun q => (q.1, q.2.2) := by rw [hv.st.ec, find_c]
  refine ⟨_, rfl, ld, b, rfl, hd, hby, fun p hp px z H1 s1 pk => ?_, fun hn => q2 (by unfold cameR; rw [hn]; cases sv.settings.clients.find? (fun x => x.1 == c) <;> rfl)⟩
  have hv1 := hv.same s1
  refine ⟨_, rfl, _, rfl, x, _, dx, _, _, rfl, hv1.ob, kv.cl, na kv _, fsServer_settings, sx, _, sdx, _, _, rfl, hv1.st.ob, kst.cl, na kst _, fsSettings_secrets, dc, _, rfl, DGet.k (k := .inl (c : Int)) hv1.st.ci, _, rfl, ?_⟩
  rw [valV_c]
  cases hf : zc.find? (fun q => q.1 == c) with
  | none =>
   refine ite2 (fun _ => q2 ?_ H1 s1) (fun z => absurd rfl z)
   unfold cameR
   rw [ecl, hf]
   rfl
  | some qc =>
  obtain ⟨c0, lsec, secret⟩ := qc
  have hmc := List.mem_of_find?_eq_some hf
  have hcs := hv1.st.cl _ hmc
  have hc256 : c < 256 := by
   have := List.find?_some hf
   have e : c0 = c := by simpa using this
   rw [← e]
   exact hcs.2.2.2
  have ecr : cameR sv c now b = if p.code ≠ 1 ∧ p.code ≠ 4 then none else match sv.said.find? (fun x => fitsB x c p now) with
   | some x => some (sv, x.bytes)
   | none => (if p.code = 1 then (access sv p secret).map (fun r => (sv.sessions, r)) else (acc0 sv.sessions c p secret).map fun ss => (ss, answer p secret 5 [])).bind fun q =>
    if 4096 < q.2.length then none else some ({ sv with sessions := q.1, said := (⟨c, p.id, p.auth, now, q.2⟩ :: sv.said).take SAID }, q.2) := by
   unfold cameR
   rw [ecl, hf, hp]
   rfl
  refine ite2 (fun z => absurd z (fun e => nomatch (e : false = true))) (fun _ => ?_)
  obtain ⟨dp, l1, l2, l3, p1, p2, p3, p4⟩ := pk.ex
  refine ⟨_, rfl, px, _, dp, _, _, rfl, p1, kp.cl, na kp _, fsPacket_code, (by show 2 ≤ sizeLine; decide), fun pt npt => ?_⟩
  have st : Same H1 (upd H1 pt (.tup [nV 1, nV 4])) := up npt
  refine ⟨pt, [nV 1, nV 4], rfl, .inr (SqT.of upd_same), rfl, rfl, _, rfl, ?_⟩
  show if (!inV (nV p.code) [nV 1, nV 4]) = true then _ else _
  rw [inV2]
  generalize upd H1 pt (.tup [nV 1, nV 4]) = H2 at st ⊢
  have s02 := s1.trans st
  refine ite2 (fun cc => ?_) (fun cc => ?_)
  ·have cc : ¬ (p.code = 1 ∨ p.code = 4) := by simpa using cc
   exact q2 (by rw [ecr, if_pos ⟨fun e => cc (.inl e), fun e => cc (.inr e)⟩]) H2 s02
  have cc : p.code = 1 ∨ p.code = 4 := by
   by_cases h : p.code = 1 ∨ p.code = 4
   ·exact h
   ·rw [decide_eq_false h] at cc
    exact absurd rfl cc
  rw [if_neg (fun h => by rcases cc with e | e; exact h.1 e; exact h.2 e)] at ecr
  have hv2 := hv.same s02
  have pk2 := pk.same st
  have esaid : ∀ {i : Nat} {q : Addr × Said}, i < za.length → za[za.length - 1 - i]? = some q → sv.said[i]? = some q.2 := by
   intro i q hi hq
   rw [hv.ea, List.getElem?_reverse (by rw [List.length_map]; exact hi), List.length_map, List.getElem?_map, hq]
   rfl
  have slen : sv.said.length = za.length := by rw [hv.ea, List.length_reverse, List.length_map]
  refine ⟨_, rfl, x, _, dx, _, _, rfl, hv2.ob, kv.cl, na kv _, fsServer_answered, la, _, rfl, SqL.of hv2.an, for_gen (n := (za.map fun q => V.ref q.1).length) (fun i σ G => G = H2 ∧ (∀ q ∈ sv.said.take i, fitsB q c p now = false) ∧ ∃ o5, σ = [some (.ref x), some (nV c), some (nV now), some (.ref ld), some (.ref px), o5, none, none]) ?_ ?_ ?_ ?_ ?_⟩
  ·exact ⟨rfl, fun q hq => absurd hq List.not_mem_nil, _, rfl⟩
  ·rintro i σ G hi ⟨rfl, _⟩
   refine ⟨hi, _, _, SqL.of hv2.an, List.getElem?_eq_getElem ?_⟩
   omega
  ·rintro σ G _
   exact Nat.le_refl _
  ·rintro i σ G v G' hi ⟨rfl, hno, o5, rfl⟩ ⟨rfl, hy⟩
   have hy := hy _ (SqL.of hv2.an)
   rw [List.length_map] at hi hy
   obtain ⟨q, hq, rfl⟩ : ∃ q, za[za.length - 1 - i]? = some q ∧ v = V.ref q.1 := by
    rw [List.getElem?_map] at hy
    cases e : za[za.length - 1 - i]? with
    | none => rw [e] at hy; cases hy
    | some n => rw [e] at hy; exact ⟨n, rfl, (Option.some.inj hy).symm⟩
   have hsi := esaid hi hq
   have hap := hv2.ap q (List.mem_of_getElem? hq)
   obtain ⟨dq, lqa, lqg, b1, b2, b3⟩ := hap
   refine ⟨_, rfl, q.1, dq, _, rfl, b1, fsAnswered_no "fits", _, rfl, _, rfl, _, rfl, q.1, px, p, z, q.2, c, now, rfl, ⟨dq, lqa, lqg, b1, b2, b3⟩, pk2, _, rfl, ite2 (fun e => ?_) (fun e => ?_)⟩
   ·have hfi := find_at (f := fun x => fitsB x c p now) hsi e hno
    rw [hfi] at ecr
    refine ⟨_, rfl, q.1, _, dq, _, _, rfl, b1, kan.cl, na kan _, fsAnswered_given, ?_⟩
    exact q1 _ _ ecr (hv.sb q.2 (List.mem_of_getElem? hsi)) lqg G' (fun b u _ e => s02 _ _ e) ⟨dx, sx, lse, la, sdx, dc, du, zc, zu, zs, za, hv2⟩ b3
   ·refine ⟨rfl, fun y hy => ?_, _, rfl⟩
    rw [List.take_add_one, hsi] at hy
    rcases List.mem_append.mp hy with hy | hy
    ·exact hno y hy
    ·rw [List.mem_singleton.mp hy]
     exact Bool.eq_false_iff.mpr e
  ·rintro σ G ⟨rfl, hno, o5, rfl⟩
   rw [List.length_map, ← slen, List.take_length] at hno
   have hfi : sv.said.find? (fun x => fitsB x c p now) = none := List.find?_eq_none.mpr (fun q hq => by rw [hno q hq]; decide)
   rw [hfi] at ecr
   dsimp only at ecr
   have hdg : DGet G dc (nV c) (some (.ref lsec)) := by
    have := DGet.k (k := .inl (c : Int)) hv2.st.ci
    rw [valV_c, hf] at this
    exact this
   refine ⟨_, rfl, x, _, dx, _, _, rfl, hv2.ob, kv.cl, na kv _, fsServer_settings, sx, _, sdx, _, _, rfl, hv2.st.ob, kst.cl, na kst _, fsSettings_secrets, _, rfl, dc, .ref lsec, rfl, hdg, ?_⟩
   have hsec := (hv2.st.cl _ hmc)
   dsimp only [tNext]
   refine seq_mid (fun σ' H' => ∃ lg q, σ' = [some (.ref x), some (nV c), some (nV now), some (.ref ld), some (.ref px), o5, some (.ref lsec), some (.ref lg)] ∧ q.2.length ≤ 4096 ∧ Ls H' lg q.2 ∧ SvAt t H' x { sv with sessions := q.1 } ∧ PkAt t H' px p z ∧ Off x H H' ∧
    (if p.code = 1 then (access sv p secret).map (fun r => (sv.sessions, r)) else (acc0 sv.sessions c p secret).map fun ss => (ss, answer p secret 5 [])) = some q) ?_ ?_
   ·rintro σ' H3 ⟨lg, qr, rfl, hql, hlg, hsv, pk3, off3, eq⟩
    rw [eq] at ecr
    have ecr : cameR sv c now b = some ({ sv with sessions := qr.1, said := (⟨c, p.id, p.auth, now, qr.2⟩ :: sv.said).take SAID }, qr.2) := ecr.trans (if_neg (by omega))
    obtain ⟨dx3, sx3, ls3, la3, sdx3, dc3, du3, zc3, zu3, zs3, za3, hv3⟩ := hsv
    have sSaid : sv.said = (za3.map (·.2)).reverse := hv3.ea
    refine ⟨_, rfl, x, _, dx3, _, _, rfl, hv3.ob, kv.cl, na kv _, fsServer_answered, 1, 16, rfl, rfl, _, rfl, la3, _, rfl, SqL.of hv3.an, fun lr nlr => ?_⟩
    have ecut : cutV (za3.map fun q => V.ref q.1) (some ((1 : Int) - 16)) none = (za3.drop (za3.length - 15)).map fun q => V.ref q.1 := by
     rw [show ((1 : Int) - 16) = -((15 : Nat) : Int) from rfl, cutV_last _ 15 (by decide), List.length_map, List.map_drop]
    rw [ecut]
    have s4 : Same H3 (upd H3 lr (.lst ((za3.drop (za3.length - 15)).map fun q => V.ref q.1))) := up nlr
    have elr : upd H3 lr (.lst ((za3.drop (za3.length - 15)).map fun q => V.ref q.1)) lr = some (.lst ((za3.drop (za3.length - 15)).map fun q => V.ref q.1)) := upd_same
    generalize upd H3 lr (.lst ((za3.drop (za3.length - 15)).map fun q => V.ref q.1)) = H4 at s4 elr ⊢
    refine ⟨_, rfl, _, rfl, _, rfl, _, rfl, ?_⟩
    intro ax ad nax nad nae
    have sm : Same H4 (upd (upd H4 ad (.own ax)) ax (.ins t.cAnswered ad [])) := fun b o e => by
     rw [upd_ne (ne_of_none e nax), upd_ne (ne_of_none e nad)]
     exact e
    refine ⟨ax, ad, px, p, z, lg, c, now, rfl, upd_same, (pk3.same s4).same sm, fun lau H5 hla st5 => ⟨rfl, ?_⟩⟩
    have s5 : Same H4 H5 := made_same nax nad st5
    have lauax : lau ≠ ax := ne_of hla (upd_same (H := upd H4 ad (.own ax)) (a := ax)) (by intro z; cases z)
    have hla5 : Ls H5 lau p.auth := st5.2 _ _ hla lauax
    have s35 := s4.trans s5
    have hsa : SaAt t H5 ax ⟨c, p.id, p.auth, now, qr.2⟩ := ⟨ad, lau, lg, st5.1, hla5, s35 _ _ hlg⟩
    refine ⟨(by show 1 ≤ sizeLine; decide), fun ll nll => ?_⟩
    have s6 : Same H5 (upd H5 ll (.lst [.ref ax])) := up nll
    have ell : upd H5 ll (.lst [.ref ax]) ll = some (.lst [.ref ax]) := upd_same
    generalize upd H5 ll (.lst [.ref ax]) = H6 at s6 ell ⊢
    refine ⟨lr, ll, _, _, rfl, rfl, s6 _ _ (s5 _ _ elr), ell, ?_, fun lf nlf => ?_⟩
    ·rw [List.length_map, List.length_drop]
     have := hv3.am
     exact Nat.le_trans (show _ + 1 ≤ 100 by omega) (by decide)
    have s7 : Same H6 (upd H6 lf (.lst (((za3.drop (za3.length - 15)).map fun q => V.ref q.1) ++ [.ref ax]))) := up nlf
    have elf : upd H6 lf (.lst (((za3.drop (za3.length - 15)).map fun q => V.ref q.1) ++ [.ref ax])) lf = some (.lst ((za3.drop (za3.length - 15) ++ ([(ax, (⟨c, p.id, p.auth, now, qr.2⟩ : Said))] : ZA)).map fun q : Addr × Said => V.ref q.1)) := by
     rw [upd_same, List.map_append]
     rfl
    generalize upd H6 lf (.lst (((za3.drop (za3.length - 15)).map fun q => V.ref q.1) ++ [.ref ax])) = H7 at s7 elf ⊢
    have s37 := (s35.trans s6).trans s7
    have hv7 := hv3.same s37
    refine ⟨_, rfl, x, _, dx3, _, rfl, hv7.ob, kv.cl, na kv _, fsServer_len, ?_⟩
    rw [fsServer_put_answered]
    have off : Off x H7 (upd H7 x (.ins t.cServer dx3 (fsServer (.ref sx3) (.ref ls3) (.ref lf)))) := fun b u hb e => by rw [upd_ne hb]; exact e
    have al := hv7.alien
    refine ⟨_, rfl, q1 _ _ ecr hql lg _ (fun b u hb e => off b u hb (s37 _ _ (off3 b u hb e))) ⟨dx3, sx3, ls3, lf, sdx3, dc3, du3, zc3, zu3, zs3, za3.drop (za3.length - 15) ++ [(ax, ⟨c, p.id, p.auth, now, qr.2⟩)], upd_same, hv7.st.off al off, hv7.se.off al off, hv7.es, off_lst off hv7.ob elf, ?_, ?_, ?_, hv7.so, ?_⟩ (off_lst off hv7.ob (s37 _ _ hlg))⟩
    ·intro y hy
     rcases List.mem_append.mp hy with hy | hy
     ·exact (hv7.ap y (List.mem_of_mem_drop hy)).off al off
     ·rw [List.mem_singleton.mp hy]
      exact ((hsa.same s6).same s7).off al off
    ·show (⟨c, p.id, p.auth, now, qr.2⟩ :: sv.said).take (15 + 1) = _
     rw [List.take_succ_cons, List.map_append, List.reverse_append, sSaid, List.take_reverse, List.length_map, List.map_drop]
     rfl
    ·rw [List.length_append, List.length_drop]
     show _ + 1 ≤ 16
     omega
    ·intro y hy
     have hy : y ∈ (⟨c, p.id, p.auth, now, qr.2⟩ :: sv.said).take SAID := hy
     rcases List.mem_cons.mp (List.mem_of_mem_take hy) with rfl | hy
     ·exact hql
     ·exact hv.sb y hy
   ·intro N hN
    obtain ⟨dp2, m1, m2, m3, r1, r2, r3, r4⟩ := pk2.ex
    refine ⟨_, rfl, px, _, dp2, _, _, rfl, r1, kp.cl, na kp _, fsPacket_code, p.code, 1, rfl, rfl, _, rfl, ite2 (fun e1 => ?_) (fun e1 => ?_)⟩
    ·have e1 := of_decide_eq_true e1
     rw [if_pos e1] at hN ecr
     refine ⟨_, rfl, _, rfl, _, rfl, x, _, dx, _, _, rfl, hv2.ob, kv.cl, na kv _, fsServer_settings, sx, _, sdx, _, _, rfl, hv2.st.ob, kst.cl, na kst _, fsSettings_users, _, rfl, x, _, dx, _, _, rfl, hv2.ob, kv.cl, na kv _, fsServer_sessions, ?_⟩
     have eacc : access sv p secret = acc (zu.map (·.2)) (zs.map (·.2)) p secret := by rw [access_acc, hv.st.eu, hv.es]
     rw [eacc] at hN ecr
     refine ⟨px, lsec, du, lse, p, z, zu, zs, secret, rfl, pk2, hsec.1, hsec.2.1, hsec.2.2.1, hv2.st.us, hv2.se, fun r hr hl lg H4 n4 s4 l4 => ?_, fun hno H' s' => ?_⟩
     ·exact hN _ _ ⟨lg, (sv.sessions, r), rfl, hl, l4, ⟨dx, sx, lse, la, sdx, dc, du, zc, zu, zs, za, hv2.same s4⟩, pk2.same s4, fun b u _ e => s4 _ _ (s02 _ _ e), by rw [hr]; rfl⟩
     ·refine q2 ?_ H' (s02.trans s')
      rw [ecr]
      cases he : acc (zu.map (·.2)) (zs.map (·.2)) p secret with
      | none => rfl
      | some r => exact if_pos (hno r he)
    ·have e1 : ¬ p.code = 1 := fun z => e1 (decide_eq_true z)
     rw [if_neg e1] at hN ecr
     refine ⟨_, rfl, x, dx, _, rfl, hv2.ob, fsServer_no "account", _, rfl, _, rfl, _, rfl, ?_⟩
     refine ⟨x, px, lsec, p, z, sv, c, secret, rfl, ⟨dx, sx, lse, la, sdx, dc, du, zc, zu, zs, za, hv2⟩, pk2, hsec.1, hsec.2.1, hsec.2.2.1, hc256, fun ss hss hl lg H4 off4 hv4 l4 => ?_, fun hno H' s' => ?_⟩
     ·exact hN _ _ ⟨lg, (ss, answer p secret 5 []), rfl, hl, l4, hv4, pk2.off hv2.alien off4, off4.of s02, by rw [hss]; rfl⟩
     ·refine q2 ?_ H' (s02.trans s')
      rw [ecr]
      rcases hno with hno | hno
      ·rw [hno]
       rfl
      ·cases acc0 sv.sessions c p secret with
       | none => rfl
       | some ss => exact if_pos hno
end
end Dw
namespace Dw
open PySem L2 Sn37
abbrev ib (l : List Int) : List V := l.map V.int
theorem ib_nb (b : Bytes) : ib (b.map fun n : Nat => (n : Int)) = nb b := by
 unfold ib nb
 rw [List.map_map]
 rfl
theorem nb_ib (b : Bytes) : nb b = ib (Sn37Neutral.ints b) := (ib_nb b).symm
structure RdAt (K : PySem.W.Frag) (t : Adr) (H : Hp) (r dr ln : Addr) (k : Nat) (l : List Int) : Prop where
 ob : H r = some (.ins t.cReader dr (fsReader (.ref ln) (nV k)))
 li : SqL K H ln (ib l)
theorem RdAt.alien {K : PySem.W.Frag} {t : Adr} {H : Hp} {r dr ln : Addr} {k : Nat} {l : List Int} (h : RdAt K t H r dr ln k l) : Alien H r :=
 .of_ins h.ob (fsReader_no _) (fsReader_no _) (fsReader_no _) (fsReader_no _) (fsReader_no _) (fsReader_no _)
theorem off_rd {K : PySem.W.Frag} {H H' : Hp} {x a C dx : Addr} {fs : List (Str × V)} {l : List V} (off : Off x H H') (hx : H x = some (.ins C dx fs)) (h : SqL K H a l) : SqL K H' a l := by
 rcases h with (h | ⟨o, h⟩) | h
 ·exact .inl (.inl (off_lst off hx h))
 ·exact .inl (.inr ⟨o, off _ _ (ne_of h hx (by intro z; cases z)) h⟩)
 ·exact .inr h
section
variable {P : Program} {w : World} {K : PySem.W.Frag} {mg : Str → Option Value} {base : Heap} {t : Adr}
def spIReader (t : Adr) : Sp := fun vs H Q _ => ∃ x dx a, vs = [.ref x, a] ∧ H x = some (.ins t.cReader dx []) ∧ ∀ H', Stored H H' x (.ins t.cReader dx (fsReader a (nV 0))) → Q .non H'
theorem sc_iReader : FnScope ["self", "numbers"] ["self", "numbers"] (defScope (inClass (top 115) 0)) := ⟨rfl, rfl, rfl, by decide +kernel, rfl, by decide +kernel, by decide +kernel⟩
theorem ok_iReader (T : Txt K mg t) : FnOk P w K mg base CX0 1 t.iReader.a t.iReader.fd ["self", "numbers"] (spIReader t) := by
 refine T.porter.iReader.fn.ok sc_iReader (fun vs H Q E h => ?_) (fun cdv A outer s H vs Q E hr h => ?_)
 ·obtain ⟨x, dx, a, rfl, _⟩ := h
  rfl
 ·obtain ⟨x, dx, a, rfl, hx, q⟩ := h
  have kl := T.porter.cReader
  refine ⟨_, (pss_cons (ps_fld (pv 0) (pv 1) rfl)
   (pss_one (ps_fld (pv 0) pe_int rfl))), ?_⟩
  refine ⟨_, rfl, _, rfl, x, _, dx, [], rfl, hx, kl.cl, na kl _, by show 0 < 1000; decide, _, rfl, x, _, dx, _, rfl, upd_same, kl.cl, na kl _, by show 1 < 1000; decide, ?_⟩
  refine q _ ⟨upd_same, fun b u e hb => ?_⟩
  rw [upd_ne hb, upd_ne hb]
  exact e
def spMore (K : PySem.W.Frag) (t : Adr) : Sp := fun vs H Q _ => ∃ r dr ln k l, vs = [.ref r] ∧ RdAt K t H r dr ln k l ∧ Q (.bl (decide (k < l.length))) H
theorem sc_more : FnScope ["self"] ["self"] (defScope (inClass (top 115) 1)) := ⟨rfl, rfl, rfl, by decide +kernel, rfl, by decide +kernel, by decide +kernel⟩
theorem ok_reader_has_more (T : Txt K mg t) : FnOk P w K mg base CX0 1 t.reader_has_more.a t.reader_has_more.fd ["self"] (spMore K t) := by
 refine T.porter.reader_has_more.fn.ok sc_more (fun vs H Q E h => ?_) (fun cdv A outer s H vs Q E hr h => ?_)
 ·obtain ⟨r, dr, ln, k, l, rfl, _⟩ := h
  rfl
 ·obtain ⟨r, dr, ln, k, l, rfl, h, q⟩ := h
  have kl := T.porter.cReader
  refine ⟨_, (pss_one (ps_ret (pe_cmpR o_lt (fldK K (pv 0) rfl) (pLenV T (fldK K (pv 0) rfl)) (nomark _)))), ?_⟩
  refine ⟨_, rfl, r, _, dr, _, _, rfl, h.ob, kl.cl, na kl _, fsReader_place, _, rfl, r, _, dr, _, _, rfl, h.ob, kl.cl, na kl _, fsReader_numbers, ln, _, rfl, .inl (h.li), _, _, rfl, rfl, ?_⟩
  rw [List.length_map]
  exact q
def spTakeN (K : PySem.W.Frag) (t : Adr) : Sp := fun vs H Q _ => ∃ r dr ln k l, ∃ n : Int, vs = [.ref r] ∧ RdAt K t H r dr ln k l ∧ l[k]? = some n ∧ ∀ H', Off r H H' → RdAt K t H' r dr ln (k + 1) l → (∀ a, H a = none → H' a = none) → Q (.int n) H'
theorem sc_takeN : FnScope ["self"] ["self"] (defScope (inClass (top 115) 2)) := ⟨rfl, rfl, rfl, by decide +kernel, rfl, by decide +kernel, by decide +kernel⟩
theorem ok_reader_take_number (T : Txt K mg t) : FnOk P w K mg base CX0 1 t.reader_take_number.a t.reader_take_number.fd ["self"] (spTakeN K t) := by
 refine T.porter.reader_take_number.fn.ok sc_takeN (fun vs H Q E h => ?_) (fun cdv A outer s H vs Q E hr h => ?_)
 ·obtain ⟨r, dr, ln, k, l, n, rfl, _⟩ := h
  rfl
 ·obtain ⟨r, dr, ln, k, l, n, rfl, h, hn, q⟩ := h
  have kl := T.porter.cReader
  refine ⟨_, (pss_cons (ps_fldaug (pv 0) pe_int in_add)
   (pss_one (ps_ret (pe_ix (ix_lk K) (fldK K (pv 0) rfl) (pe_op op_sub (fldK K (pv 0) rfl) pe_int) (fun _ _ => rfl))))), ?_⟩
  refine ⟨_, rfl, r, _, dr, _, _, rfl, h.ob, kl.cl, na kl _, fsReader_place, _, 1, rfl, rfl, dr, _, h.ob, fsReader_len, ?_⟩
  rw [fsReader_put_place]
  have off : Off r H (upd H r (.ins t.cReader dr (fsReader (.ref ln) (nV (k + 1))))) := fun b u hb e => by rw [upd_ne hb]; exact e
  have h1 : RdAt K t (upd H r (.ins t.cReader dr (fsReader (.ref ln) (nV (k + 1))))) r dr ln (k + 1) l := ⟨upd_same, off_rd off h.ob h.li⟩
  refine ⟨_, rfl, r, _, dr, _, _, rfl, h1.ob, kl.cl, na kl _, fsReader_numbers, _, rfl, r, _, dr, _, _, rfl, h1.ob, kl.cl, na kl _, fsReader_place, _, 1, rfl, rfl, ln, _, _, _, rfl, rfl, h1.li, ?_, q _ off h1 fun a ha => ?_⟩
  ·have e : (((k + 1 : Nat) : Int) - 1) = ((k : Nat) : Int) := by omega
   rw [e]
   refine atI_nat ?_
   rw [List.getElem?_map, hn]
   rfl
  ·by_cases e : a = r
   ·rw [e, h.ob] at ha
    cases ha
   ·rw [upd_ne e]
    exact ha
def spTakeR (K : PySem.W.Frag) (t : Adr) : Sp := fun vs H Q _ => ∃ r dr ln k l, ∃ (n : Int) (q : List Int), vs = [.ref r] ∧ RdAt K t H r dr ln k l ∧ l.drop k = n :: q ∧ 0 ≤ n ∧ n.toNat ≤ q.length ∧
 ∀ p H', H p = none → Off r H H' → RdAt K t H' r dr ln (k + 1 + n.toNat) l → H' p = some (.lst (ib (q.take n.toNat))) → Q (.ref p) H'
theorem sc_takeR : FnScope ["self", "length"] ["self"] (defScope (inClass (top 115) 3)) := ⟨rfl, rfl, rfl, by decide +kernel, rfl, by decide +kernel, by decide +kernel⟩
theorem Off.trans {a : Addr} {H H1 H2 : Hp} (h : Off a H H1) (g : Off a H1 H2) : Off a H H2 := fun b u hb e => g b u hb (h b u hb e)
theorem drop_at {l q : List Int} {k : Nat} {n : Int} (h : l.drop k = n :: q) : l[k]? = some n ∧ q = l.drop (k + 1) := by
 have hk : k < l.length := by
  by_cases hk : k < l.length
  ·exact hk
  ·rw [List.drop_of_length_le (by omega)] at h
   cases h
 rw [List.drop_eq_getElem_cons hk] at h
 obtain ⟨h1, h2⟩ := List.cons.inj h
 exact ⟨by rw [List.getElem?_eq_getElem hk, h1], h2.symm⟩
theorem cutV_ib (l : List Int) (i j : Nat) : cutV (ib l) (some (i : Int)) (some (j : Int)) = ib ((l.drop i).take (j - i)) := by
 unfold cutV
 rw [HT.sIx_nat, HT.sIx_nat, take_min (ib l) i j]
 unfold ib
 rw [List.map_take, List.map_drop]
theorem ok_reader_take_row (T : Txt K mg t) : FnOk P w K mg base CX0 2 t.reader_take_row.a t.reader_take_row.fd ["self"] (spTakeR K t) := by
 refine T.porter.reader_take_row.fn.ok sc_takeR (fun vs H Q E h => ?_) (fun cdv A outer s H vs Q E hr h => ?_)
 ·obtain ⟨r, dr, ln, k, l, n, q0, rfl, _⟩ := h
  rfl
 ·obtain ⟨r, dr, ln, k, l, n, q0, rfl, h, hd, h0, hl, q⟩ := h
  have kl := T.porter.cReader
  obtain ⟨d1, d2⟩ := drop_at hd
  refine ⟨_, (pss_cons (ps_set (i := 1) sc_takeR.nd rfl (Or.inl rfl) (methN0 (pv 0) T.porter.cReader.cl T.porter.reader_take_number (ok_reader_take_number T) hr))
   (pss_cons (ps_fldaug (pv 0) (pv 1) in_add)
   (pss_one (ps_ret (pe_slice (sl_vk K) (fldK K (pv 0) rfl) (po_some (pe_op op_sub (fldK K (pv 0) rfl) (pv 1))) (po_some (fldK K (pv 0) rfl))))))), ?_⟩
  refine ⟨_, rfl, r, dr, _, rfl, h.ob, fsReader_no "take_number", r, dr, ln, k, l, n, rfl, h, d1, fun H1 off1 h1 fr1 => ?_⟩
  refine ⟨_, rfl, r, _, dr, _, _, rfl, h1.ob, kl.cl, na kl _, fsReader_place, _, rfl, _, _, rfl, rfl, dr, _, h1.ob, fsReader_len, ?_⟩
  have en : (((k + 1 : Nat) : Int) + n) = ((k + 1 + n.toNat : Nat) : Int) := by omega
  rw [en, fsReader_put_place]
  have off2 : Off r H1 (upd H1 r (.ins t.cReader dr (fsReader (.ref ln) (nV (k + 1 + n.toNat))))) := fun b u hb e => by rw [upd_ne hb]; exact e
  have h2 : RdAt K t (upd H1 r (.ins t.cReader dr (fsReader (.ref ln) (nV (k + 1 + n.toNat))))) r dr ln (k + 1 + n.toNat) l := ⟨upd_same, off_rd off2 h1.ob h1.li⟩
  have fr2 : ∀ a, upd H1 r (.ins t.cReader dr (fsReader (.ref ln) (nV (k + 1 + n.toNat)))) a = none → H a = none := fun a ha => by
   have ne : a ≠ r := fun e => by rw [e, upd_same] at ha; cases ha
   rw [upd_ne ne] at ha
   cases e : H a with
   | none => rfl
   | some u => rw [off1 a u ne e] at ha; cases ha
  refine ⟨_, rfl, r, _, dr, _, _, rfl, h2.ob, kl.cl, na kl _, fsReader_numbers, _, rfl, r, _, dr, _, _, rfl, h2.ob, kl.cl, na kl _, fsReader_place, _, rfl, _, _, rfl, rfl, _, rfl, _, rfl, r, _, dr, _, _, rfl, h2.ob, kl.cl, na kl _, fsReader_place, _, rfl, ln, _, rfl, h2.li, fun p np => ?_⟩
  have e1 : (((k + 1 + n.toNat : Nat) : Int) - n) = ((k + 1 : Nat) : Int) := by omega
  rw [e1, cutV_ib, show k + 1 + n.toNat - (k + 1) = n.toNat by omega, ← d2]
  have s3 : Same (upd H1 r (.ins t.cReader dr (fsReader (.ref ln) (nV (k + 1 + n.toNat))))) (upd (upd H1 r (.ins t.cReader dr (fsReader (.ref ln) (nV (k + 1 + n.toNat))))) p (.lst (ib (q0.take n.toNat)))) := up np
  exact q p _ (fr2 p np) (fun b u hb e => s3 _ _ ((off1.trans off2) b u hb e)) ⟨s3 _ _ h2.ob, s3.seq h2.li⟩ upd_same
def spIPorter (t : Adr) : Sp := fun vs H Q _ => ∃ x dx, vs = [.ref x] ∧ H x = some (.ins t.cPorter dx []) ∧ ∀ H', Stored H H' x (.ins t.cPorter dx (fsPorter .non)) → Q .non H'
theorem sc_iPorter : FnScope ["self"] ["self"] (defScope (inClass (top 116) 0)) := ⟨rfl, rfl, rfl, by decide +kernel, rfl, by decide +kernel, by decide +kernel⟩
theorem ok_iPorter (T : Txt K mg t) : FnOk P w K mg base CX0 1 t.iPorter.a t.iPorter.fd ["self"] (spIPorter t) := by
 refine T.porter.iPorter.fn.ok sc_iPorter (fun vs H Q E h => ?_) (fun cdv A outer s H vs Q E hr h => ?_)
 ·obtain ⟨x, dx, rfl, _⟩ := h
  rfl
 ·obtain ⟨x, dx, rfl, hx, q⟩ := h
  have kl := T.porter.cPorter
  refine ⟨_, (pss_one (ps_fld (pv 0) pe_non rfl)), ?_⟩
  refine ⟨_, rfl, x, _, dx, [], rfl, hx, kl.cl, na kl _, by show 0 < 1000; decide, ?_⟩
  refine q _ ⟨upd_same, fun b u e hb => ?_⟩
  rw [upd_ne hb]
  exact e
end
end Dw
namespace Dw
open PySem L2 Sn37
def VsAt (t : Adr) (H : Hp) (v : V) (s : Sn37.St) : Prop := match s with | none => v = .non | some sv => ∃ x, v = .ref x ∧ SvAt t H x sv
def PoAt (t : Adr) (H : Hp) (po : Addr) (s : Sn37.St) : Prop := ∃ dp v, H po = some (.ins t.cPorter dp (fsPorter v)) ∧ VsAt t H v s
theorem VsAt.same {t : Adr} {H H' : Hp} {v : V} {s : Sn37.St} (h : VsAt t H v s) (k : Same H H') : VsAt t H' v s := by
 cases s with
 | none => exact h
 | some sv =>
  obtain ⟨x, e, h⟩ := h
  exact ⟨x, e, h.same k⟩
theorem VsAt.off {t : Adr} {H H' : Hp} {v : V} {x : Addr} {s : Sn37.St} (h : VsAt t H v s) (al : Alien H x) (hn : ∀ C dx fs, H x = some (.ins C dx fs) → fs.lookup ("sessions" : Str) = none) (off : Off x H H') : VsAt t H' v s := by
 cases s with
 | none => exact h
 | some sv =>
  obtain ⟨y, e, h⟩ := h
  exact ⟨y, e, h.off al hn off⟩
structure Keeps (H H' : Hp) : Prop where
 li : ∀ a l, H a = some (.lst l) → H' a = some (.lst l)
 fz : ∀ a o u, H a = some (.frz o u) → H' a = some (.frz o u)
 rd : ∀ a C dx fs v, H a = some (.ins C dx fs) → fs.lookup ("numbers" : Str) = some v → H' a = some (.ins C dx fs)
theorem Keeps.of_same {H H' : Hp} (s : Same H H') : Keeps H H' := ⟨fun a l h => s _ _ h, fun a o u h => s _ _ h, fun a C dx fs v h _ => s _ _ h⟩
theorem Keeps.trans {H H1 H2 : Hp} (h : Keeps H H1) (g : Keeps H1 H2) : Keeps H H2 := ⟨fun a l e => g.li a l (h.li a l e), fun a o u e => g.fz a o u (h.fz a o u e), fun a C dx fs v e l => g.rd a C dx fs v (h.rd a C dx fs v e l) l⟩
theorem Keeps.of_off {H H' : Hp} {x C dx : Addr} {fs : List (Str × V)} (off : Off x H H') (hx : H x = some (.ins C dx fs)) (hn : fs.lookup ("numbers" : Str) = none) : Keeps H H' :=
 ⟨fun a l h => off_lst off hx h, fun a o u h => off _ _ (ne_of h hx (by intro z; cases z)) h, fun a C dx fs v h l => off_ins off hx hn h l⟩
def ansOf (r : Sn37.St × Ans) : List Int := r.2.value :: Sn37Neutral.ints r.2.out
def pDone (t : Adr) (H : Hp) (po : Addr) (r : Sn37.St × Ans) (Q : VK) : Prop := ∀ la H', H la = none → Keeps H H' → PoAt t H' po r.1 → H' la = some (.lst (ib (ansOf r))) → Q (.ref la) H'
section
variable {P : Program} {w : World} {K : PySem.W.Frag} {mg : Str → Option Value} {base : Heap} {t : Adr}
def spList (t : Adr) : Sp := fun vs H Q _ => ∃ po s, ∃ m : Int, vs = [.ref po, .int m] ∧ PoAt t H po s ∧ pDone t H po (Sn37.run s (.sessions m)) Q
theorem sc_list : FnScope ["self", "most", "lines", "session"] ["self", "most"] (defScope (inClass (top 116) 3)) := ⟨rfl, rfl, rfl, by decide +kernel, rfl, by decide +kernel, by decide +kernel⟩
theorem within_no {m : Int} {k : Nat} (h : ¬ (0 ≤ m ∧ m ≤ (k : Int))) : within m k = false := by
 unfold within
 by_cases h0 : 0 ≤ m
 ·rw [decide_eq_true h0, decide_eq_false (fun z => h ⟨h0, z⟩)]
  rfl
 ·rw [decide_eq_false h0]
  rfl
theorem within_yes {m : Int} {k : Nat} (h0 : 0 ≤ m) (h1 : m ≤ (k : Int)) : within m k = true := by
 unfold within
 rw [decide_eq_true h0, decide_eq_true h1]
 rfl
theorem flat_len {ss : List Session} (h : ∀ q ∈ ss, SeOk q) : (ss.flatMap lineOf).length ≤ 1018 * ss.length := by
 induction ss with
 | nil => exact Nat.le_refl _
 | cons a r ih =>
  have h1 := lineOf_length (h a List.mem_cons_self).cl
  have h2 := (h a List.mem_cons_self).ul
  have h3 := (h a List.mem_cons_self).nl
  have h4 := ih (fun q hq => h q (List.mem_cons_of_mem _ hq))
  rw [List.flatMap_cons, List.length_append, List.length_cons]
  omega
theorem ok_porter_list_sessions (T : Txt K mg t) : FnOk P w K mg base (CXF P w) 3 t.porter_list_sessions.a t.porter_list_sessions.fd ["self", "most"] (spList t) := by
 refine T.porter.porter_list_sessions.fn.okX sc_list (fun vs H Q E h => ?_) (fun cdv A outer s H vs Q E hr h => ?_)
 ·obtain ⟨po, st, m, rfl, _⟩ := h
  rfl
 ·obtain ⟨po, st, m, rfl, ⟨dp, v, hp, hv⟩, q⟩ := h
  have kp := T.porter.cPorter
  have ksv := T.server.cServer
  refine ⟨_, (pss_cons (ps_if (pt_cmpR op_isN (fldK K (pv 0) rfl) pe_non (nomark _))
   (pss_one (ps_ret (pe_lst (pa_cons (gN T "NO_SERVER" (-9)) pa_nil))))
   pss_nil)
   (pss_cons (ps_if (pt_not (pt_chain op_le op_le pe_int (pv 1) (gN T "MOST_ROOM" 65536)))
   (pss_one (ps_ret (pe_lst (pa_cons (gN T "OUT_OF_RANGE" (-2)) pa_nil))))
   pss_nil)
   (pss_cons (ps_set (i := 2) sc_list.nd rfl (Or.inl rfl) (pe_lst pa_nil))
   (pss_cons (ps_for own_pass rfl (pi_list (fldK K (fldK K (pv 0) rfl) rfl)) (pg_name (i := 3) sc_list.nd rfl (Or.inl rfl))
   (pss_one (ps_expr (pe_bm PySem.F.plainAttrs_list PySem.F.slot_list_extend PySem.F.type_list_extend mt_extend (pv 2) (pa_cons (methN0 (pv 3) T.accounting.cSession.cl T.accounting.session_line (ok_session_line T) hr) pa_nil)))))
   (pss_cons (ps_if (pt_cmpR op_gt (pLen T (pv 2)) (pv 1) (nomark _))
   (pss_one (ps_ret (pe_lst (pa_cons (gN T "TOO_LONG" (-1)) pa_nil))))
   pss_nil)
   (pss_one (ps_ret (pe_op o_cat (pe_lst (pa_cons (pLen T (pv 2)) pa_nil)) (pv 2))))))))), ?_⟩
  have fin : ∀ (n : Int), ansOf (Sn37.run st (.sessions m)) = [n] → (Sn37.run st (.sessions m)).1 = st → ∀ G, Same H G → ∀ la, G la = none → Q (.ref la) (upd G la (.lst [.int n])) := by
   intro n en es G sG la nla
   have s2 := sG.trans (up (o := .lst [.int n]) nla)
   refine q la _ (sG.free nla) (.of_same s2) ?_ ?_
   ·rw [es]
    exact ⟨dp, v, s2 _ _ hp, hv.same s2⟩
   ·rw [upd_same, en]
    rfl
  refine ⟨_, rfl, po, _, dp, _, _, rfl, hp, kp.cl, na kp _, fsPorter_server, rfl, _, rfl, ite2 (fun c => ?_) (fun c => ?_)⟩
  ·have c := of_decide_eq_true c
   have e : st = none := by
    cases st with
    | none => rfl
    | some sv =>
     obtain ⟨x, e, _⟩ := hv
     rw [e] at c
     cases c
   subst e
   exact ⟨(by show 1 ≤ sizeLine; decide), fun la nla => fin (-9) rfl rfl H (Same.refl H) la nla⟩
  obtain ⟨sv, x, rfl, rfl, hsv⟩ : ∃ sv x, st = some sv ∧ v = .ref x ∧ SvAt t H x sv := by
   cases st with
   | none =>
    have hv : v = .non := hv
    subst hv
    exact absurd rfl c
   | some sv =>
    obtain ⟨x, e, h⟩ := hv
    exact ⟨sv, x, rfl, e, h⟩
  have er : Sn37.run (some sv) (.sessions m) = if within m MOST = false then (some sv, ⟨-2, []⟩) else if m < ((listed sv).length : Int) then (some sv, ⟨-1, []⟩) else (some sv, ⟨((listed sv).length : Nat), listed sv⟩) := rfl
  refine ⟨_, rfl, 0, m, rfl, rfl, _, rfl, ite2 (fun c1 => ?_) (fun c1 => ?_)⟩
  rotate_left
  ·have c1 : ¬ (0 : Int) ≤ m := fun z => c1 (decide_eq_true z)
   rw [if_pos (within_no (fun h => c1 h.1))] at er
   exact ⟨_, rfl, ite2 (fun _ => ⟨(by show 1 ≤ sizeLine; decide), fun la nla => fin (-2) (by rw [er]; rfl) (by rw [er]) H (Same.refl H) la nla⟩) (fun z => absurd rfl z)⟩
  have c1 := of_decide_eq_true c1
  refine ⟨m, 65536, rfl, rfl, _, rfl, ite2 (fun c2 => ?_) (fun c2 => ?_)⟩
  ·have c2 : ¬ m ≤ 65536 := by simpa using c2
   rw [if_pos (within_no (k := MOST) (fun h => c2 h.2))] at er
   exact ⟨(by show 1 ≤ sizeLine; decide), fun la nla => fin (-2) (by rw [er]; rfl) (by rw [er]) H (Same.refl H) la nla⟩
  have c2 : m ≤ 65536 := by simpa using c2
  rw [if_neg (by rw [within_yes (k := MOST) c1 c2]; decide)] at er
  refine ⟨(by show 0 ≤ sizeLine; decide), fun D hD => ?_⟩
  have sD : Same H (upd H D (.lst [])) := up hD
  obtain ⟨dx, sx, lse, la, sdx, dc, du, zc, zu, zs, za, hs⟩ := hsv
  refine ⟨_, rfl, po, _, dp, _, _, rfl, sD _ _ hp, kp.cl, na kp _, fsPorter_server, x, _, dx, _, _, rfl, sD _ _ hs.ob, ksv.cl, na ksv _, fsServer_sessions, lse, rfl, ⟨_, SqL.of (sD _ _ hs.se.li)⟩, for_list (xs := rfz zs) (fun i σ G => Same H G ∧ Ls G D (((zs.map (·.2)).take i).flatMap lineOf) ∧ ∃ o3, σ = [some (.ref po), some (.int m), some (.ref D), o3]) ⟨sD, upd_same, _, rfl⟩ ?_ ?_ ?_⟩
  ·rintro i σ G _ ⟨sG, _⟩
   exact SqL.of (sG _ _ hs.se.li)
  ·rintro i y σ G hy ⟨sG, lD, o3, rfl⟩
   obtain ⟨u, hu, rfl⟩ : ∃ q, zs[i]? = some q ∧ y = V.ref q.1 := by
    rw [List.getElem?_map] at hy
    cases e : zs[i]? with
    | none => rw [e] at hy; cases hy
    | some n => rw [e] at hy; exact ⟨n, rfl, (Option.some.inj hy).symm⟩
   have hm := List.mem_of_getElem? hu
   have hil := (List.getElem?_eq_some_iff.mp hu).1
   have hok := hs.so u.2 (by rw [hs.es]; exact List.mem_map_of_mem hm)
   obtain ⟨du2, lu, ln, a1, a2, a3⟩ := (hs.se.se u hm).same sG
   refine ⟨_, rfl, .inl ⟨rfl, _, SqL.of lD⟩, _, rfl, u.1, du2, _, rfl, a1, fsSession_no "line", u.1, u.2, rfl, ⟨du2, lu, ln, a1, a2, a3⟩, hok.cl, hok.ub, hok.nb, (by have := hok.ul; omega), (by have := hok.nl; omega), fun p2 H2 n2 s2 l2 => ?_⟩
   have hlen := flat_len (ss := (zs.map (·.2)).take i) (fun q hq => hs.so q (by rw [hs.es]; exact List.mem_of_mem_take hq))
   have hl1 := lineOf_length hok.cl
   refine ⟨D, p2, _, _, rfl, rfl, s2 _ _ lD, l2, ?_, put_new (sG.trans s2) hD, ?_, _, rfl⟩
   ·rw [nb_length, nb_length]
    rw [List.length_take, List.length_map] at hlen
    have := hs.se.mo
    have := hok.ul
    have := hok.nl
    exact Nat.le_trans (show _ ≤ 100000 by omega) (by decide)
   ·unfold Ls
    rw [upd_same, List.take_add_one, List.getElem?_map, hu, List.flatMap_append, nb_append]
    show _ = some (HO.lst (_ ++ nb (lineOf u.2 ++ [])))
    rw [List.append_nil]
  ·rintro σ G ⟨sG, lD, o3, rfl⟩
   rw [List.length_map, ← List.length_map (as := zs) (f := fun q : Addr × Session => q.2), List.take_length, ← hs.es, ← listed_eq] at lD
   have hll : (listed sv).length ≤ 65200 := by
    have := flat_len hs.so
    have h2 := hs.se.mo
    rw [hs.es, List.length_map, ← hs.es] at this
    rw [listed_eq]
    omega
   refine ⟨_, rfl, D, _, rfl, SqL.of lD, _, rfl, _, m, rfl, rfl, _, rfl, ite2 (fun c3 => ?_) (fun c3 => ?_)⟩
   ·have c3 : m < ((listed sv).length : Int) := of_decide_eq_true c3
    rw [if_pos c3] at er
    exact ⟨(by show 1 ≤ sizeLine; decide), fun la nla => fin (-1) (by rw [er]; rfl) (by rw [er]) G sG la nla⟩
   ·have c3 : ¬ m < ((listed sv).length : Int) := fun z => c3 (decide_eq_true z)
    rw [if_neg c3] at er
    refine ⟨_, rfl, D, _, rfl, SqL.of lD, (by show 1 ≤ sizeLine; decide), fun p1 n1 => ?_⟩
    have s1 : Same G (upd G p1 (.lst (nb [(listed sv).length]))) := up n1
    refine ⟨_, rfl, p1, D, [(listed sv).length], listed sv, rfl, rfl, upd_same, s1 _ _ lD, (by show 1 + _ ≤ 200000; omega), fun la H2 n2 s2 l2 => ?_⟩
    have s02 := (sG.trans s1).trans s2
    refine q la H2 ((sG.trans s1).free n2) (.of_same s02) ?_ ?_
    ·rw [er]
     exact ⟨dp, _, s02 _ _ hp, x, rfl, dx, sx, lse, _, sdx, dc, du, zc, zu, zs, za, hs.same s02⟩
    ·rw [er]
     refine l2.trans ?_
     rw [nb_append, nb_ib (listed sv)]
     rfl
end
end Dw
namespace Dw
open PySem L2 Sn37
theorem psFldK {X : Cx} {o value : Expr} {f : Str} {pos pos' : Pos} {ta tv : TE} (K : PySem.W.Frag) (ha : PE X o ta) (hv : PE X value tv) (hs : swapsWith value (some (.Attribute o f pos')) pos.line X.env = pure false) (h : X.K = K := by rfl) : PS X (.Assign [.Attribute o f pos'] value pos) (sFld K ta tv f) := by
 subst h
 exact ps_fld ha hv hs
section
variable {P : Program} {w : World} {K : PySem.W.Frag} {mg : Str → Option Value} {base : Heap} {t : Adr}
def spBegin (t : Adr) : Sp := fun vs H Q _ => ∃ po lt s, ∃ b : List Nat, vs = [.ref po, .ref lt] ∧ PoAt t H po s ∧ Ls H lt b ∧ b.length ≤ 65536 ∧ pDone t H po (Sn37.run s (.begin_ b (b.length : Int))) Q
theorem sc_begin : FnScope ["self", "text", "e"] ["self", "text"] (defScope (inClass (top 116) 1)) := ⟨rfl, rfl, rfl, by decide +kernel, rfl, by decide +kernel, by decide +kernel⟩
theorem ok_porter_begin (T : Txt K mg t) : FnOk P w K mg base (CXF P w) 8 t.porter_begin.a t.porter_begin.fd ["self", "text"] (spBegin t) := by
 refine T.porter.porter_begin.fn.okX sc_begin (fun vs H Q E h => ?_) (fun cdv A outer s H vs Q E hr h => ?_)
 ·obtain ⟨po, lt, st, b, rfl, _⟩ := h
  rfl
 ·obtain ⟨po, lt, st, b, rfl, ⟨dp, v, hp, hv⟩, hb, hl, q⟩ := h
  have kp := T.porter.cPorter
  refine ⟨_, (pss_cons (ps_fld (pv 0) pe_non rfl)
   (pss_cons (ps_if (pt_cmpR o_gt (pLen T (pv 1)) (gN T "MOST_TEXT" 65536) (nomark _))
    (pss_one (ps_ret (pe_lst (pa_cons (gN T "OUT_OF_RANGE" (-2)) pa_nil))))
    pss_nil)
   (pss_cons (ps_tryAs (ie := 2) (th := fun a d => tRet (tLst (tCons (tOp (rI0 fun i j => .int (i - j)) (tC (.int (-100))) (tXf a d (tVar 2) "line_number")) tNil))) body_of T.settings.cWrongLine.xcl rfl sc_begin.nd rfl rfl
     (fun _ _ _ hx => pss_one (psFldK K (pv 0) (makeN T.server.cServer T.server.iServer (ok_iServer T) hr (pa_cons (callX (ok_read_settings T) T.settings.read_settings hr hx (pa_cons (pv 1) pa_nil)) pa_nil)) rfl))
     (fun _ _ _ _ hpn hcl hdat => pss_one (ps_ret (pe_lst (pa_cons (pe_op op_sub (gN T "BEFORE_FIRST_LINE" (-100)) (pe_xf T.settings.cWrongLine hpn hcl hdat (pv 2) rfl)) pa_nil)))))
   (pss_one (ps_ret (pe_lst (pa_cons pe_int pa_nil))))))), ?_⟩
  refine ⟨_, rfl, po, _, dp, _, rfl, hp, kp.cl, na kp _, fsPorter_len, ?_⟩
  rw [fsPorter_put_server]
  have off1 : Off po H (upd H po (.ins t.cPorter dp (fsPorter .non))) := fun b u hb e => by rw [upd_ne hb]; exact e
  have k1 : Keeps H (upd H po (.ins t.cPorter dp (fsPorter .non))) := .of_off off1 hp (fsPorter_no _)
  have hp1 : upd H po (.ins t.cPorter dp (fsPorter .non)) po = some (.ins t.cPorter dp (fsPorter .non)) := upd_same
  have fr1 : ∀ a, upd H po (.ins t.cPorter dp (fsPorter .non)) a = none → H a = none := fun a ha => by
   have ne : a ≠ po := fun e => by rw [e, upd_same] at ha; cases ha
   rw [upd_ne ne] at ha
   exact ha
  have hb1 := off_lst off1 hp hb
  generalize upd H po (.ins t.cPorter dp (fsPorter .non)) = H1 at off1 k1 hp1 fr1 hb1 ⊢
  have er : Sn37.run st (.begin_ b (b.length : Int)) = match setsOf b with | .error k => (none, ⟨-100 - (k : Int), []⟩) | .ok x => (some ⟨x, [], []⟩, ⟨0, []⟩) := by
   show (if within (b.length : Int) MOST = false then _ else _) = _
   rw [if_neg (by rw [within_yes (k := MOST) (by omega) (by show (b.length : Int) ≤ 65536; omega)]; decide)]
   rfl
  refine ⟨_, rfl, lt, b, rfl, SqL.of hb1, b.length, 65536, rfl, rfl, _, rfl, ite2 (fun c => ?_) (fun _ => ?_)⟩
  ·have c := of_decide_eq_true c
   omega
  refine ⟨_, rfl, lt, b, rfl, hb1, hl, fun ss es x sdx dc du zc zu H2 s2 hst => ?_, fun k ek d H2 nd s2 hd => ⟨rfl, fun a => ?_⟩⟩
  ·rw [es] at er
   intro vx vd nx nd ne
   refine ⟨vx, vd, .ref x, rfl, upd_same, fun ls la H3 els ela st3 => ⟨rfl, ?_⟩⟩
   have s3 : Same H2 H3 := made_same nx nd st3
   have s13 := s2.trans s3
   have hp3 := s13 _ _ hp1
   have hsv : SvAt t H3 vx ⟨ss, [], []⟩ := ⟨vd, x, ls, la, sdx, dc, du, zc, zu, [], [], st3.1, hst.same s3, ⟨els, fun q hq => absurd hq List.not_mem_nil, Nat.zero_le _⟩, rfl, ela, fun q hq => absurd hq List.not_mem_nil, rfl, Nat.zero_le _, fun q hq => absurd hq List.not_mem_nil, fun q hq => absurd hq List.not_mem_nil⟩
   refine ⟨_, rfl, po, _, dp, _, rfl, hp3, kp.cl, na kp _, fsPorter_len, ?_⟩
   rw [fsPorter_put_server]
   have off4 : Off po H3 (upd H3 po (.ins t.cPorter dp (fsPorter (.ref vx)))) := fun b u hb e => by rw [upd_ne hb]; exact e
   have al : Alien H3 po := .of_ins hp3 (fsPorter_no _) (fsPorter_no _) (fsPorter_no _) (fsPorter_no _) (fsPorter_no _) (fsPorter_no _)
   have hsv4 := hsv.off al (fun C dx fs e => by rw [hp3] at e; cases e; exact fsPorter_no _) off4
   refine ⟨(by show 1 ≤ sizeLine; decide), fun la2 nla => ?_⟩
   have s5 := up (o := .lst [.int 0]) nla
   refine q la2 _ ?_ ((k1.trans (.of_same s13)).trans ((Keeps.of_off off4 hp3 (fsPorter_no _)).trans (.of_same s5))) ?_ ?_
   ·have ne : la2 ≠ po := fun e => by rw [e, upd_same] at nla; cases nla
    rw [upd_ne ne] at nla
    exact fr1 _ (s13.free nla)
   ·rw [er]
    exact ⟨dp, .ref vx, s5 _ _ upd_same, vx, rfl, hsv4.same s5⟩
   ·rw [upd_same, er]
    rfl
  ·rw [ek] at er
   refine ⟨_, rfl, d, _, (k : Int), rfl, rfl, hd, rfl, -100, (k : Int), rfl, rfl, (by show 1 ≤ sizeLine; decide), fun la nla => ?_⟩
   have s5 := up (o := .lst [.int (-100 - (k : Int))]) nla
   refine q la _ (fr1 _ (s2.free nla)) (k1.trans (.of_same (s2.trans s5))) ?_ ?_
   ·rw [er]
    exact ⟨dp, .non, s5 _ _ (s2 _ _ hp1), rfl⟩
   ·rw [upd_same, er]
    rfl
def spPkt (t : Adr) : Sp := fun vs H Q _ => ∃ po ld s, ∃ (c now : Nat) (m : Int) (b : List Nat), vs = [.ref po, nV c, nV now, .int m, .ref ld] ∧ PoAt t H po s ∧ Ls H ld b ∧ By b ∧ b.length ≤ 65535 ∧ pDone t H po (Sn37.run s (.packet c now b (b.length : Int) m)) Q
theorem sc_pkt : FnScope ["self", "client", "now", "most", "data", "given"] ["self", "client", "now", "most", "data"] (defScope (inClass (top 116) 2)) := ⟨rfl, rfl, rfl, by decide +kernel, rfl, by decide +kernel, by decide +kernel⟩
theorem ok_porter_answer_packet (T : Txt K mg t) : FnOk P w K mg base (CXF P w) 9 t.porter_answer_packet.a t.porter_answer_packet.fd ["self", "client", "now", "most", "data"] (spPkt t) := by
 refine T.porter.porter_answer_packet.fn.okX sc_pkt (fun vs H Q E h => ?_) (fun cdv A outer s H vs Q E hr h => ?_)
 ·obtain ⟨po, ld, st, c, now, m, b, rfl, _⟩ := h
  rfl
 ·obtain ⟨po, ld, st, c, now, m, b, rfl, ⟨dp, v, hp, hv⟩, hd, hby, hl, q⟩ := h
  have kp := T.porter.cPorter
  refine ⟨_, (pss_cons (ps_if (pt_cmpR op_isN (fldK K (pv 0) rfl) pe_non (nomark _))
    (pss_one (ps_ret (pe_lst (pa_cons (gN T "NO_SERVER" (-9)) pa_nil))))
    pss_nil)
   (pss_cons (ps_if ((pw_or (pt_cmpR o_gt (pLen T (pv 4)) (gN T "MOST_PACKET" 65535) (nomark _)) (pw_or1 (pt_not (pt_chain op_le op_le (gN T "LEAST_ROOM" 4096) (pv 3) (gN T "MOST_ROOM" 65536)))))).pt
    (pss_one (ps_ret (pe_lst (pa_cons (gN T "OUT_OF_RANGE" (-2)) pa_nil))))
    pss_nil)
   (pss_cons (ps_try body_of T.packets.cNoAnswer.xcl rfl (fun _ => PassesOwnAt.leaving)
     (fun _ _ _ hx => pss_one (ps_set (i := 5) sc_pkt.nd rfl (Or.inl rfl) (methX (fldK K (pv 0) rfl) T.server.cServer.cl T.server.server_answer (ok_server_answer T) hr hx (pa_cons (pv 1) (pa_cons (pv 2) (pa_cons (pv 4) pa_nil))))))
     (ph_of hr.hd (fun _ => pss_one (ps_ret (pe_lst (pa_cons pe_int pa_nil))))))
   (pss_one (ps_ret (pe_op o_cat (pe_lst (pa_cons (pLen T (pv 5)) pa_nil)) (pv 5))))))), ?_⟩
  have fin : ∀ (n : Int), ansOf (Sn37.run st (.packet c now b (b.length : Int) m)) = [n] → (Sn37.run st (.packet c now b (b.length : Int) m)).1 = st → ∀ G, Same H G → ∀ la, G la = none → Q (.ref la) (upd G la (.lst [.int n])) := by
   intro n en es G sG la nla
   have s2 := sG.trans (up (o := .lst [.int n]) nla)
   refine q la _ (sG.free nla) (.of_same s2) ?_ ?_
   ·rw [es]
    exact ⟨dp, v, s2 _ _ hp, hv.same s2⟩
   ·rw [upd_same, en]
    rfl
  refine ⟨_, rfl, po, _, dp, _, _, rfl, hp, kp.cl, na kp _, fsPorter_server, rfl, _, rfl, ite2 (fun c0 => ?_) (fun c0 => ?_)⟩
  ·have c0 := of_decide_eq_true c0
   have e : st = none := by
    cases st with
    | none => rfl
    | some sv =>
     obtain ⟨x, e, _⟩ := hv
     rw [e] at c0
     cases c0
   subst e
   exact ⟨(by show 1 ≤ sizeLine; decide), fun la nla => fin (-9) rfl rfl H (Same.refl H) la nla⟩
  obtain ⟨sv, x, rfl, rfl, hsv⟩ : ∃ sv x, st = some sv ∧ v = .ref x ∧ SvAt t H x sv := by
   cases st with
   | none =>
    have hv : v = .non := hv
    subst hv
    exact absurd rfl c0
   | some sv =>
    obtain ⟨x, e, h⟩ := hv
    exact ⟨sv, x, rfl, e, h⟩
  have er : Sn37.run (some sv) (.packet c now b (b.length : Int) m) = if within (b.length : Int) MOSTPACKET = false ∨ within m MOST = false ∨ m < 4096 then (some sv, ⟨-2, []⟩) else (some (came sv c now b).1, ⟨((came sv c now b).2.length : Nat), (came sv c now b).2⟩) := rfl
  refine ⟨_, rfl, ld, b, rfl, SqL.of hd, b.length, 65535, rfl, rfl, _, rfl, ite2 (fun c1 => ?_) (fun _ => ?_)⟩
  ·have c1 := of_decide_eq_true c1
   omega
  refine ⟨_, rfl, 4096, m, rfl, rfl, _, rfl, ite2 (fun c1 => ?_) (fun c1 => ?_)⟩
  rotate_left
  ·have c1 : ¬ (4096 : Int) ≤ m := fun z => c1 (decide_eq_true z)
   rw [if_pos (.inr (.inr (by omega)))] at er
   exact ⟨_, rfl, ite2 (fun _ => ⟨(by show 1 ≤ sizeLine; decide), fun la nla => fin (-2) (by rw [er]; rfl) (by rw [er]) H (Same.refl H) la nla⟩) (fun z => absurd rfl z)⟩
  have c1 := of_decide_eq_true c1
  refine ⟨m, 65536, rfl, rfl, _, rfl, ite2 (fun c2 => ?_) (fun c2 => ?_)⟩
  ·have c2 : ¬ m ≤ 65536 := by simpa using c2
   rw [if_pos (.inr (.inl (within_no (k := MOST) (fun h => c2 h.2))))] at er
   exact ⟨(by show 1 ≤ sizeLine; decide), fun la nla => fin (-2) (by rw [er]; rfl) (by rw [er]) H (Same.refl H) la nla⟩
  have c2 : m ≤ 65536 := by simpa using c2
  rw [if_neg (by
   rintro (h | h | h)
   ·rw [within_yes (k := MOSTPACKET) (by omega) (by show (b.length : Int) ≤ 65535; omega)] at h
    cases h
   ·rw [within_yes (k := MOST) (by omega) c2] at h
    cases h
   ·omega), came_eq] at er
  obtain ⟨dx, sx, lse, la0, sdx, dc, du, zc, zu, zs, za, hs⟩ := hsv
  refine ⟨_, rfl, po, _, dp, _, _, rfl, hp, kp.cl, na kp _, fsPorter_server, x, dx, _, rfl, hs.ob, fsServer_no "answer", _, rfl, _, rfl, _, rfl, x, ld, sv, c, now, b, rfl, ⟨dx, sx, lse, la0, sdx, dc, du, zc, zu, zs, za, hs⟩, hd, hby, fun s' r hc hrl lg H2 off2 hsv2 l2 => ?_, fun hn H' s' => ⟨rfl, (by show 1 ≤ sizeLine; decide), fun la nla => ?_⟩⟩
  ·rw [hc] at er
   have er : Sn37.run (some sv) (.packet c now b (b.length : Int) m) = (some s', ⟨(r.length : Nat), r⟩) := er
   refine ⟨_, rfl, lg, r, rfl, SqL.of l2, (by show 1 ≤ sizeLine; decide), fun p1 n1 => ?_⟩
   have s1 : Same H2 (upd H2 p1 (.lst (nb [r.length]))) := up n1
   refine ⟨_, rfl, p1, lg, [r.length], r, rfl, rfl, upd_same, s1 _ _ l2, (by show 1 + _ ≤ 200000; omega), fun la H3 n3 s3 l3 => ?_⟩
   have s23 := s1.trans s3
   have hp2 : H2 po = some (.ins t.cPorter dp (fsPorter (.ref x))) := off_ins off2 hs.ob (fsServer_no _) hp fsPorter_server
   refine q la H3 ?_ ((Keeps.of_off off2 hs.ob (fsServer_no _)).trans (.of_same s23)) ?_ ?_
   ·have n2 := s1.free n3
    cases e : H la with
    | none => rfl
    | some u =>
     by_cases ex : la = x
     ·obtain ⟨_, _, _, _, _, _, _, _, _, _, _, hs2⟩ := hsv2
      rw [ex, hs2.ob] at n2
      cases n2
     ·rw [off2 la u ex e] at n2
      cases n2
   ·rw [er]
    exact ⟨dp, .ref x, s23 _ _ hp2, x, rfl, hsv2.same s23⟩
   ·rw [er]
    refine l3.trans ?_
    rw [nb_append, nb_ib r]
    rfl
  ·rw [hn] at er
   exact fin 0 (by rw [er]; rfl) (by rw [er]; rfl) H' s' la nla
end
end Dw
namespace Dw
open PySem L2 Sn37
theorem PoAt.off {K : PySem.W.Frag} {t : Adr} {H H' : Hp} {po r dr ln : Addr} {k : Nat} {l : List Int} {s : Sn37.St} (h : PoAt t H po s) (hr : RdAt K t H r dr ln k l) (off : Off r H H') : PoAt t H' po s := by
 obtain ⟨dp, v, h1, h2⟩ := h
 exact ⟨dp, v, off_ins off hr.ob (fsReader_no _) h1 fsPorter_server, h2.off hr.alien (fun C dx fs e => by rw [hr.ob] at e; cases e; exact fsReader_no _) off⟩
theorem RdAt.keeps {K : PySem.W.Frag} {t : Adr} {H H' : Hp} {r dr ln : Addr} {k : Nat} {l : List Int} (hr : RdAt K t H r dr ln k l) (ks : Keeps H H') : RdAt K t H' r dr ln k l := ⟨ks.rd _ _ _ _ _ hr.ob fsReader_numbers, by
 rcases hr.li with (h | ⟨o, h⟩) | h
 ·exact .inl (.inl (ks.li _ _ h))
 ·exact .inl (.inr ⟨o, ks.fz _ _ _ h⟩)
 ·exact .inr h⟩
theorem up_le {r : List Int} {most : Nat} (h : decide (r.length = Sn37Neutral.upTo (r.length : Int) 0 (most : Int)) = true) : r.length ≤ most := by
 have h := of_decide_eq_true h
 unfold Sn37Neutral.upTo at h
 split at h
 ·rename_i q
  have := q.2
  omega
 ·omega
def Fz : HO → Prop
 | .lst _ => True
 | .frz _ _ => True
 | _ => False
theorem off_fz {H H' : Hp} {x a C dx : Addr} {fs : List (Str × V)} {o : HO} (off : Off x H H') (hx : H x = some (.ins C dx fs)) (hz : Fz o) (h : H a = some o) : H' a = some o := off _ _ (ne_of h hx (by intro z; rw [z] at hz; exact hz)) h
theorem Keeps.fzs {H H' : Hp} (k : Keeps H H') {a : Addr} {o : HO} (hz : Fz o) (h : H a = some o) : H' a = some o := by
 cases o with
 | lst l => exact k.li _ _ h
 | frz o u => exact k.fz _ _ _ h
 | _ => exact hz.elim
section
variable {P : Program} {w : World} {K : PySem.W.Frag} {mg : Str → Option Value} {base : Heap} {t : Adr}
def spCall (K : PySem.W.Frag) (t : Adr) : Sp := fun vs H Q _ => ∃ po r dr ln k l s cs, vs = [.ref po, .ref r] ∧ PoAt t H po s ∧ RdAt K t H r dr ln k l ∧ Next cs (l.drop k) ∧ (∀ c cs', cs = c :: cs' → Sn37Neutral.askedOne (PySn37.whole c) = true) ∧
 ∀ c cs' la H' k' f, cs = c :: cs' → H la = none → (∀ a o, Fz o → H a = some o → H' a = some o) → RdAt K t H' r dr ln k' l → PyFlat.calls PySn37.shape f (l.drop k') = some cs' → PoAt t H' po (Sn37Neutral.step s (PySn37.whole c)).1 → H' la = some (.lst (ib (Sn37Neutral.step s (PySn37.whole c)).2)) → Q (.ref la) H'
theorem sc_call : FnScope ["porter", "reader", "call", "client", "now", "most"] ["porter", "reader"] (defScope (top 117)) := ⟨rfl, rfl, rfl, by decide +kernel, rfl, by decide +kernel, by decide +kernel⟩
theorem off_free {r : Addr} {H H1 : Hp} {o : HO} (off : Off r H H1) (hr : H1 r = some o) {a : Addr} (n : H1 a = none) : H a = none := by
 cases e : H a with
 | none => rfl
 | some u =>
  by_cases er : a = r
  ·rw [er, hr] at n
   cases n
  ·rw [off a u er e] at n
   cases n
theorem ok_answer_call (T : Txt K mg t) : FnOk P w K mg base (CXF P w) 10 t.answer_call.a t.answer_call.fd ["porter", "reader"] (spCall K t) := by
 refine T.porter.answer_call.fn.okX sc_call (fun vs H Q E h => ?_) (fun cdv A outer s H vs Q E hr h => ?_)
 ·obtain ⟨po, r, dr, ln, k, l, st, cs, rfl, _⟩ := h
  rfl
 ·obtain ⟨po, r, dr, ln, k, l, st, cs, rfl, hpo, hrd, hnx, hask, q⟩ := h
  refine ⟨_, (pss_cons (ps_set (i := 2) sc_call.nd rfl (Or.inl rfl) (methN0 (pv 1) T.porter.cReader.cl T.porter.reader_take_number (ok_reader_take_number T) hr))
   (pss_cons (ps_if (pt_cmpR op_eq (pv 2) (gN T "BEGIN" 0) (nomark _))
   (pss_one (ps_ret (methX (pv 0) T.porter.cPorter.cl T.porter.porter_begin (ok_porter_begin T) hr passF (pa_cons (methN0 (pv 1) T.porter.cReader.cl T.porter.reader_take_row (ok_reader_take_row T) hr) pa_nil))))
   pss_nil)
   (pss_cons (ps_if (pt_cmpR op_eq (pv 2) (gN T "PACKET" 1) (nomark _))
   (pss_cons (ps_set (i := 3) sc_call.nd rfl (Or.inl rfl) (methN0 (pv 1) T.porter.cReader.cl T.porter.reader_take_number (ok_reader_take_number T) hr))
    (pss_cons (ps_set (i := 4) sc_call.nd rfl (Or.inl rfl) (methN0 (pv 1) T.porter.cReader.cl T.porter.reader_take_number (ok_reader_take_number T) hr))
    (pss_cons (ps_set (i := 5) sc_call.nd rfl (Or.inl rfl) (methN0 (pv 1) T.porter.cReader.cl T.porter.reader_take_number (ok_reader_take_number T) hr))
    (pss_one (ps_ret (methX (pv 0) T.porter.cPorter.cl T.porter.porter_answer_packet (ok_porter_answer_packet T) hr passF (pa_cons (pv 3) (pa_cons (pv 4) (pa_cons (pv 5) (pa_cons (methN0 (pv 1) T.porter.cReader.cl T.porter.reader_take_row (ok_reader_take_row T) hr) pa_nil))))))))))
   pss_nil)
   (pss_one (ps_ret (methX (pv 0) T.porter.cPorter.cl T.porter.porter_list_sessions (ok_porter_list_sessions T) hr passF (pa_cons (methN0 (pv 1) T.porter.cReader.cl T.porter.reader_take_number (ok_reader_take_number T) hr) pa_nil))))))), ?_⟩
  have hpo0 := hpo
  obtain ⟨dp, v, hp, hv⟩ := hpo0
  generalize hdk : l.drop k = dk at hnx
  cases hnx with
  | begin_ n rr cs' f h0 hl e hcs =>
   obtain ⟨d1, d2⟩ := drop_at hdk
   refine ⟨_, rfl, r, dr, _, rfl, hrd.ob, fsReader_no "take_number", r, dr, ln, k, l, 0, rfl, hrd, d1, fun H1 off1 h1 _ => ?_⟩
   have hpo1 := hpo.off hrd off1
   obtain ⟨dp1, v1, hp1, hv1⟩ := hpo1
   refine ⟨_, rfl, rfl, _, rfl, ite2 (fun _ => ?_) (fun z => absurd (decide_eq_true rfl) z)⟩
   have hask := hask _ _ e
   have hask : (Sn37Neutral.int ((rr.take n.toNat).length : Int) && (NeutralIO.bytes (rr.take n.toNat) && decide ((rr.take n.toNat).length = Sn37Neutral.upTo ((rr.take n.toNat).length : Int) 0 65536))) = true := hask
   rw [Bool.and_eq_true, Bool.and_eq_true] at hask
   obtain ⟨_, hby, hlen⟩ := hask
   have hlen := up_le (most := 65536) hlen
   obtain ⟨b, eb, en, hb8⟩ := bytes_nats hby
   have ebl : (rr.take n.toNat).length = b.length := by rw [eb, List.length_map]
   refine ⟨_, rfl, po, dp1, _, rfl, hp1, fsPorter_no "begin", _, rfl, r, dr, _, rfl, h1.ob, fsReader_no "take_row", r, dr, ln, k + 1, l, n, rr, rfl, h1, d2.symm, h0, hl, fun p H2 np off2 h2 l2 => ?_⟩
   rw [eb, ib_nb] at l2
   have hpo2 := (hpo.off hrd off1).off h1 off2
   refine ⟨po, p, st, b, rfl, hpo2, l2, by omega, fun la H3 n3 ks hpo3 l3 => ?_⟩
   have n0 : H la = none := off_free off1 h1.ob (off_free off2 h2.ob n3)
   refine q _ _ la H3 (k + 1 + 1 + n.toNat) f e n0 (fun a o hz ha => ks.fzs hz (off_fz off2 h1.ob hz (off_fz off1 hrd.ob hz ha))) (h2.keeps ks) ?_ ?_ ?_
   ·rw [← hcs, show k + 1 + 1 + n.toNat = (k + 1) + (1 + n.toNat) by omega, ← List.drop_drop, ← d2, show 1 + n.toNat = n.toNat + 1 by omega, List.drop_succ_cons]
   ·show PoAt t H3 po (Sn37.run st (.begin_ (Sn37Neutral.nats (rr.take n.toNat)) ((rr.take n.toNat).length : Int))).1
    rw [en, ebl]
    exact hpo3
   ·refine l3.trans ?_
    show some (HO.lst (ib (ansOf (Sn37.run st (.begin_ b (b.length : Int)))))) = some (HO.lst (ib (ansOf (Sn37.run st (.begin_ (Sn37Neutral.nats (rr.take n.toNat)) ((rr.take n.toNat).length : Int))))))
    rw [en, ebl]
  | packet c w2 m n rr cs' f h0 hl e hcs =>
   obtain ⟨d1, d2⟩ := drop_at hdk
   obtain ⟨d3, d4⟩ := drop_at d2.symm
   obtain ⟨d5, d6⟩ := drop_at d4.symm
   obtain ⟨d7, d8⟩ := drop_at d6.symm
   have hask := hask _ _ e
   have hask : (Sn37Neutral.word c && (Sn37Neutral.word w2 && (Sn37Neutral.int ((rr.take n.toNat).length : Int) && (Sn37Neutral.int m && (NeutralIO.bytes (rr.take n.toNat) && decide ((rr.take n.toNat).length = Sn37Neutral.upTo ((rr.take n.toNat).length : Int) 0 65535)))))) = true := hask
   rw [Bool.and_eq_true, Bool.and_eq_true, Bool.and_eq_true, Bool.and_eq_true, Bool.and_eq_true] at hask
   obtain ⟨wc, ww, _, _, hby, hlen⟩ := hask
   have pos : ∀ {z : Int}, Sn37Neutral.word z = true → 0 ≤ z := fun {z} h => by
    unfold Sn37Neutral.word NeutralIO.within at h
    rw [Bool.and_eq_true] at h
    exact of_decide_eq_true h.1
   have ec : V.int c = nV c.toNat := congrArg V.int (Int.toNat_of_nonneg (pos wc)).symm
   have ew : V.int w2 = nV w2.toNat := congrArg V.int (Int.toNat_of_nonneg (pos ww)).symm
   have hlen := up_le (most := 65535) hlen
   obtain ⟨b, eb, en, hb8⟩ := bytes_nats hby
   have ebl : (rr.take n.toNat).length = b.length := by rw [eb, List.length_map]
   refine ⟨_, rfl, r, dr, _, rfl, hrd.ob, fsReader_no "take_number", r, dr, ln, k, l, 1, rfl, hrd, d1, fun H1 off1 h1 _ => ?_⟩
   refine ⟨_, rfl, rfl, _, rfl, ite2 (fun z => absurd (of_decide_eq_true z) (by intro z; cases z)) (fun _ => ?_)⟩
   refine ⟨_, rfl, rfl, _, rfl, ite2 (fun _ => ?_) (fun z => absurd (decide_eq_true rfl) z)⟩
   refine ⟨_, rfl, r, dr, _, rfl, h1.ob, fsReader_no "take_number", r, dr, ln, k + 1, l, c, rfl, h1, d3, fun H2 off2 h2 _ => ?_⟩
   refine ⟨_, rfl, r, dr, _, rfl, h2.ob, fsReader_no "take_number", r, dr, ln, k + 1 + 1, l, w2, rfl, h2, d5, fun H3 off3 h3 _ => ?_⟩
   refine ⟨_, rfl, r, dr, _, rfl, h3.ob, fsReader_no "take_number", r, dr, ln, k + 1 + 1 + 1, l, m, rfl, h3, d7, fun H4 off4 h4 _ => ?_⟩
   have hpo4 := (((hpo.off hrd off1).off h1 off2).off h2 off3).off h3 off4
   have hpo4' := hpo4
   obtain ⟨dp4, v4, hp4, hv4⟩ := hpo4'
   refine ⟨_, rfl, po, dp4, _, rfl, hp4, fsPorter_no "answer_packet", _, rfl, _, rfl, _, rfl, _, rfl, r, dr, _, rfl, h4.ob, fsReader_no "take_row", r, dr, ln, k + 1 + 1 + 1 + 1, l, n, rr, rfl, h4, d8.symm, h0, hl, fun p H5 np off5 h5 l5 => ?_⟩
   rw [eb, ib_nb] at l5
   have hpo5 := hpo4.off h4 off5
   rw [ec, ew]
   refine ⟨po, p, st, c.toNat, w2.toNat, m, b, rfl, hpo5, l5, hb8, by omega, fun la H6 n6 ks hpo6 l6 => ?_⟩
   have n0 : H la = none := off_free off1 h1.ob (off_free off2 h2.ob (off_free off3 h3.ob (off_free off4 h4.ob (off_free off5 h5.ob n6))))
   refine q _ _ la H6 (k + 1 + 1 + 1 + 1 + 1 + n.toNat) f e n0 (fun a o hz ha => ks.fzs hz (off_fz off5 h4.ob hz (off_fz off4 h3.ob hz (off_fz off3 h2.ob hz (off_fz off2 h1.ob hz (off_fz off1 hrd.ob hz ha)))))) (h5.keeps ks) ?_ ?_ ?_
   ·rw [← hcs, show k + 1 + 1 + 1 + 1 + 1 + n.toNat = (k + 1 + 1 + 1 + 1) + (n.toNat + 1) by omega, ← List.drop_drop, ← d8, List.drop_succ_cons]
   ·show PoAt t H6 po (Sn37.run st (.packet c.toNat w2.toNat (Sn37Neutral.nats (rr.take n.toNat)) ((rr.take n.toNat).length : Int) m)).1
    rw [en, ebl]
    exact hpo6
   ·refine l6.trans ?_
    show some (HO.lst (ib (ansOf (Sn37.run st (.packet c.toNat w2.toNat b (b.length : Int) m))))) = some (HO.lst (ib (ansOf (Sn37.run st (.packet c.toNat w2.toNat (Sn37Neutral.nats (rr.take n.toNat)) ((rr.take n.toNat).length : Int) m)))))
    rw [en, ebl]
  | sessions m rr cs' f e hcs =>
   obtain ⟨d1, d2⟩ := drop_at hdk
   obtain ⟨d3, d4⟩ := drop_at d2.symm
   refine ⟨_, rfl, r, dr, _, rfl, hrd.ob, fsReader_no "take_number", r, dr, ln, k, l, 2, rfl, hrd, d1, fun H1 off1 h1 _ => ?_⟩
   refine ⟨_, rfl, rfl, _, rfl, ite2 (fun z => absurd (of_decide_eq_true z) (by intro z; cases z)) (fun _ => ?_)⟩
   refine ⟨_, rfl, rfl, _, rfl, ite2 (fun z => absurd (of_decide_eq_true z) (by intro z; cases z)) (fun _ => ?_)⟩
   have hpo1 := hpo.off hrd off1
   have hpo1' := hpo1
   obtain ⟨dp1, v1, hp1, hv1⟩ := hpo1'
   refine ⟨_, rfl, po, dp1, _, rfl, hp1, fsPorter_no "list_sessions", _, rfl, r, dr, _, rfl, h1.ob, fsReader_no "take_number", r, dr, ln, k + 1, l, m, rfl, h1, d3, fun H2 off2 h2 _ => ?_⟩
   refine ⟨po, st, m, rfl, hpo1.off h1 off2, fun la H3 n3 ks hpo3 l3 => ?_⟩
   have n0 : H la = none := off_free off1 h1.ob (off_free off2 h2.ob n3)
   refine q _ _ la H3 (k + 1 + 1) f e n0 (fun a o hz ha => ks.fzs hz (off_fz off2 h1.ob hz (off_fz off1 hrd.ob hz ha))) (h2.keeps ks) ?_ hpo3 l3
   rw [← hcs, d4]
end
end Dw
namespace Dw
open PySem L2 Sn37
def seLen (s : Sn37.St) (k : Nat) : Prop := match s with | none => True | some sv => sv.sessions.length ≤ k
def Bd (s : Sn37.St) (i g : Nat) : Prop := ∃ j k b, j + k + b = i ∧ seLen s k ∧ g ≤ j * (1018 * min k 64) + 4098 * k + 2 * b + 2 * j
theorem bd_all {s : Sn37.St} {i g : Nat} (h : Bd s i g) (hi : i ≤ 300) : g ≤ 16000000 := by
 obtain ⟨j, k, b, e, _, hg⟩ := h
 by_cases hk : 64 ≤ k
 ·rw [Nat.min_eq_right hk] at hg
  have h1 : j * (1018 * 64) ≤ j * 65536 := Nat.mul_le_mul_left j (by decide)
  omega
 ·rw [Nat.min_eq_left (by omega)] at hg
  have h1 : j * (1018 * k) ≤ (300 - k) * (1018 * k) := Nat.mul_le_mul_right _ (by omega)
  have h2 : ∀ k, k < 64 → (300 - k) * (1018 * k) ≤ 15300000 := by decide +kernel
  have h3 := h2 k (by omega)
  omega
def StOk (s : Sn37.St) : Prop := match s with | none => True | some sv => (∀ q ∈ sv.sessions, SeOk q) ∧ sv.sessions.length ≤ 64 ∧ ∀ q ∈ sv.said, q.bytes.length ≤ 4096
theorem PoAt.st_ok {t : Adr} {H : Hp} {po : Addr} {s : Sn37.St} (h : PoAt t H po s) : StOk s := by
 obtain ⟨dp, v, _, h⟩ := h
 cases s with
 | none => trivial
 | some sv =>
  obtain ⟨x, _, dx, sx, ls, la, sdx, dc, du, zc, zu, zs, za, h⟩ := h
  exact ⟨h.so, by rw [h.es, List.length_map]; exact h.se.mo, h.sb⟩
theorem after_len {ss ss' : List Session} {c : Nat} {p : Packet} (e : after ss c p = some ss') : ss'.length ≤ ss.length + 1 := by
 have hf : ∀ f : Session → Bool, (ss.filter f).length ≤ ss.length + 1 := fun f => Nat.le_trans (List.length_filter_le _ _) (Nat.le_add_right _ _)
 unfold after at e
 split at e
 ·split at e
  ·rw [← Option.some.inj e]
   exact hf _
  ·unfold after2 at e
   split at e
   ·split at e
    ·split at e
     ·rw [← Option.some.inj e]
      exact Nat.le_add_right _ _
     ·split at e
      ·cases e
      ·rw [← Option.some.inj e, List.length_append]
       exact Nat.le_refl _
    ·split at e
     ·rw [← Option.some.inj e]
      exact hf _
     ·cases e
   ·cases e
 ·cases e
theorem cameR_len {sv s' : Server} {c now : Nat} {b r : Bytes} (ho : ∀ q ∈ sv.said, q.bytes.length ≤ 4096) (e : cameR sv c now b = some (s', r)) : s'.sessions.length ≤ sv.sessions.length + 1 ∧ r.length ≤ 4096 := by
 unfold cameR at e
 split at e
 ·split at e
  ·cases e
  ·split at e
   ·rename_i x hx
    obtain ⟨rfl, rfl⟩ := Prod.mk.inj (Option.some.inj e)
    exact ⟨Nat.le_add_right _ _, ho x (List.mem_of_find?_eq_some hx)⟩
   ·obtain ⟨q, hq, e⟩ := Option.bind_eq_some_iff.mp e
    split at e
    ·cases e
    ·rename_i hl
     obtain ⟨rfl, rfl⟩ := Prod.mk.inj (Option.some.inj e)
     refine ⟨?_, by omega⟩
     show q.1.length ≤ _
     split at hq
     ·obtain ⟨r0, _, rfl⟩ := Option.map_eq_some_iff.mp hq
      exact Nat.le_add_right _ _
     ·obtain ⟨ss, hss, rfl⟩ := Option.map_eq_some_iff.mp hq
      unfold acc0 at hss
      split at hss
      ·cases hss
      ·exact after_len hss
 ·cases e
theorem bd_step {s : Sn37.St} {i g : Nat} {cs cs' : List (List (List Int))} {c : List (List Int)} {d : List Int} (h : Bd s i g) (ho : StOk s) (nx : Next cs d) (e : cs = c :: cs') : Bd (Sn37Neutral.step s (PySn37.whole c)).1 (i + 1) (g + ((Sn37Neutral.step s (PySn37.whole c)).2.length + 1)) := by
 obtain ⟨j, k, b, ei, hk, hg⟩ := h
 cases nx with
 | begin_ n rr cs2 f h0 hl e2 hcs =>
  rw [e] at e2
  obtain ⟨rfl, _⟩ := List.cons.inj e2
  refine ⟨j, k, b + 1, by omega, ?_, ?_⟩
  ·show seLen (Sn37.run s (.begin_ (Sn37Neutral.nats (rr.take n.toNat)) ((rr.take n.toNat).length : Int))).1 k
   show seLen (if within ((rr.take n.toNat).length : Int) MOST = false then (none, ⟨-2, []⟩) else (match linesFrom 1 (lines (Sn37Neutral.nats (rr.take n.toNat)) []) ⟨[], []⟩ with
    | .error k => (none, ⟨-100 - (k : Int), []⟩)
    | .ok x => (some ⟨x, [], []⟩, ⟨0, []⟩)) : Sn37.St × Ans).1 k
   split
   ·trivial
   ·split
    ·trivial
    ·exact Nat.zero_le _
  ·have hl : (Sn37Neutral.step s (PySn37.whole [[0], rr.take n.toNat])).2.length = 1 := by
    show ((Sn37.run s (.begin_ (Sn37Neutral.nats (rr.take n.toNat)) ((rr.take n.toNat).length : Int))).2.value :: Sn37Neutral.ints (Sn37.run s (.begin_ (Sn37Neutral.nats (rr.take n.toNat)) ((rr.take n.toNat).length : Int))).2.out).length = 1
    have : (Sn37.run s (.begin_ (Sn37Neutral.nats (rr.take n.toNat)) ((rr.take n.toNat).length : Int))).2.out = [] := by
     show (if within ((rr.take n.toNat).length : Int) MOST = false then (none, ⟨-2, []⟩) else (match linesFrom 1 (lines (Sn37Neutral.nats (rr.take n.toNat)) []) ⟨[], []⟩ with
      | .error k => (none, ⟨-100 - (k : Int), []⟩)
      | .ok x => (some ⟨x, [], []⟩, ⟨0, []⟩)) : Sn37.St × Ans).2.out = []
     split
     ·rfl
     ·split <;> rfl
    rw [this]
    rfl
   rw [hl]
   omega
 | packet c2 w2 m n rr cs2 f h0 hl e2 hcs =>
  rw [e] at e2
  obtain ⟨rfl, _⟩ := List.cons.inj e2
  have hmono : j * (1018 * min k 64) ≤ j * (1018 * min (k + 1) 64) := Nat.mul_le_mul_left j (Nat.mul_le_mul_left 1018 (by omega))
  have key : seLen (Sn37.run s (.packet c2.toNat w2.toNat (Sn37Neutral.nats (rr.take n.toNat)) ((rr.take n.toNat).length : Int) m)).1 (k + 1) ∧ (Sn37.run s (.packet c2.toNat w2.toNat (Sn37Neutral.nats (rr.take n.toNat)) ((rr.take n.toNat).length : Int) m)).2.out.length ≤ 4096 := by
   cases s with
   | none => exact ⟨trivial, Nat.zero_le _⟩
   | some sv =>
    have hk : sv.sessions.length ≤ k := hk
    generalize Sn37Neutral.nats (rr.take n.toNat) = bb
    have er : Sn37.run (some sv) (.packet c2.toNat w2.toNat bb ((rr.take n.toNat).length : Int) m) = if within ((rr.take n.toNat).length : Int) MOSTPACKET = false ∨ within m MOST = false ∨ m < 4096 then (some sv, ⟨-2, []⟩) else (some (came sv c2.toNat w2.toNat bb).1, ⟨((came sv c2.toNat w2.toNat bb).2.length : Nat), (came sv c2.toNat w2.toNat bb).2⟩) := rfl
    rw [er]
    split
    ·exact ⟨Nat.le_trans hk (Nat.le_add_right _ _), Nat.zero_le _⟩
    ·show (came sv c2.toNat w2.toNat bb).1.sessions.length ≤ k + 1 ∧ (came sv c2.toNat w2.toNat bb).2.length ≤ 4096
     rw [came_eq]
     cases hc : cameR sv c2.toNat w2.toNat bb with
     | none => exact ⟨Nat.le_trans hk (Nat.le_add_right _ _), Nat.zero_le _⟩
     | some q =>
      have := cameR_len ho.2.2 (s' := q.1) (r := q.2) hc
      refine ⟨?_, this.2⟩
      show q.1.sessions.length ≤ k + 1
      have := this.1
      omega
  refine ⟨j, k + 1, b, by omega, key.1, ?_⟩
  have hl2 : (Sn37Neutral.step s (PySn37.whole [[1, c2, w2, m], rr.take n.toNat])).2.length ≤ 4097 := by
   show ((Sn37.run s (.packet c2.toNat w2.toNat (Sn37Neutral.nats (rr.take n.toNat)) ((rr.take n.toNat).length : Int) m)).2.value :: Sn37Neutral.ints (Sn37.run s (.packet c2.toNat w2.toNat (Sn37Neutral.nats (rr.take n.toNat)) ((rr.take n.toNat).length : Int) m)).2.out).length ≤ 4097
   unfold Sn37Neutral.ints
   rw [List.length_cons, List.length_map]
   have := key.2
   omega
  omega
 | sessions m rr cs2 f e2 hcs =>
  rw [e] at e2
  obtain ⟨rfl, _⟩ := List.cons.inj e2
  have key : seLen (Sn37.run s (.sessions m)).1 k ∧ (Sn37.run s (.sessions m)).2.out.length ≤ 1018 * min k 64 := by
   cases s with
   | none => exact ⟨trivial, Nat.zero_le _⟩
   | some sv =>
    have hk : sv.sessions.length ≤ k := hk
    have hfl := flat_len ho.1
    rw [← listed_eq] at hfl
    have h64 := ho.2.1
    have er : Sn37.run (some sv) (.sessions m) = if within m MOST = false then (some sv, ⟨-2, []⟩) else if m < ((listed sv).length : Int) then (some sv, ⟨-1, []⟩) else (some sv, ⟨((listed sv).length : Nat), listed sv⟩) := rfl
    rw [er]
    split
    ·exact ⟨hk, Nat.zero_le _⟩
    ·split
     ·exact ⟨hk, Nat.zero_le _⟩
     ·refine ⟨hk, Nat.le_trans hfl (Nat.mul_le_mul_left 1018 (by omega))⟩
  refine ⟨j + 1, k, b, by omega, key.1, ?_⟩
  have hl2 : (Sn37Neutral.step s (PySn37.whole [[2, m]])).2.length ≤ 1018 * min k 64 + 1 := by
   show ((Sn37.run s (.sessions m)).2.value :: Sn37Neutral.ints (Sn37.run s (.sessions m)).2.out).length ≤ _
   unfold Sn37Neutral.ints
   rw [List.length_cons, List.length_map]
   have := key.2
   omega
  rw [Nat.add_mul, Nat.one_mul]
  omega
theorem Next.cons {cs : List (List (List Int))} {d : List Int} (h : Next cs d) : ∃ c cs', cs = c :: cs' := by
 cases h with
 | begin_ n rr cs' f h0 hl e hcs => exact ⟨_, _, e⟩
 | packet c2 w2 m n rr cs' f h0 hl e hcs => exact ⟨_, _, e⟩
 | sessions m rr cs' f e hcs => exact ⟨_, _, e⟩
theorem PoAt.offz {t : Adr} {H H' : Hp} {po D : Addr} {o : Obj} {u : HO} {s : Sn37.St} (h : PoAt t H po s) (hD : H D = some (.frz o u)) (off : Off D H H') : PoAt t H' po s := by
 obtain ⟨dp, v, h1, h2⟩ := h
 have al : Alien H D := .of_frz hD
 exact ⟨dp, v, off _ _ (ne_of h1 hD (by intro z; cases z)) h1, h2.off al (fun C dx fs e => by rw [hD] at e; cases e) off⟩
section
variable {P : Program} {w : World} {K : PySem.W.Frag} {mg : Str → Option Value} {base : Heap} {t : Adr}
def KSeq (K : PySem.W.Frag) (a : Addr) (xs : List V) : Prop := ∃ (o : Obj) (its : Array Value) (n : Nat), K.lookup a = some o ∧ o.cls = .type "list" ∧ o.dict = none ∧ o.data = .seq its n ∧ its.size ≤ sizeLine ∧ Vals xs its.toList
theorem sq_upd {K : PySem.W.Frag} {H : Hp} {a D : Addr} {o : HO} {xs : List V} (h : SqL K H a xs) (hd : D ≠ a ∨ KSeq K a xs) : SqL K (upd H D o) a xs := by
 rcases hd with hd | hd
 ·rcases h with (h | ⟨ob, h⟩) | h
  ·exact .inl (.inl (by rw [upd_ne (fun e => hd e.symm)]; exact h))
  ·exact .inl (.inr ⟨ob, by rw [upd_ne (fun e => hd e.symm)]; exact h⟩)
  ·exact .inr h
 ·exact .inr hd
def spAnswers (K : PySem.W.Frag) : Sp := fun vs H Q _ => ∃ a, ∃ l : List Int, vs = [.ref a] ∧ SqL K H a (ib l) ∧ PySn37.answers_asked l = true ∧ ∀ D H', H' D = some (.lst (ib (PySn37.answers l))) → Q (.ref D) H'
theorem sc_answers : FnScope ["calls", "porter", "reader", "given", "answer"] ["calls"] (defScope (top 118)) := ⟨rfl, rfl, rfl, by decide +kernel, rfl, by decide +kernel, by decide +kernel⟩
theorem fine_cons {s : Sn37.St} {c : List (List Int)} {cs : List (List (List Int))} (h : Sn37Neutral.fine s (c :: cs) = true) : Sn37Neutral.askedOne c = true ∧ Sn37Neutral.fine (Sn37Neutral.step s c).1 cs = true := by
 unfold Sn37Neutral.fine at h
 rw [Bool.and_eq_true] at h
 dsimp only at h
 rw [Bool.and_eq_true] at h
 exact ⟨h.1, h.2.2⟩
theorem ok_answers (T : Txt K mg t) : FnOk P w K mg base (CXF P w) 11 t.answers.a t.answers.fd ["calls"] (spAnswers K) := by
 refine T.porter.answers.fn.okX sc_answers (fun vs H Q E h => ?_) (fun cdv A outer s H vs Q E hr h => ?_)
 ·obtain ⟨a, l, rfl, _⟩ := h
  rfl
 ·obtain ⟨a, l, rfl, ha, hask, q⟩ := h
  refine ⟨_, (pss_cons (ps_set (i := 1) sc_answers.nd rfl (Or.inl rfl) (makeN0 T.porter.cPorter T.porter.iPorter (ok_iPorter T) hr))
   (pss_cons (ps_set (i := 2) sc_answers.nd rfl (Or.inl rfl) (makeN T.porter.cReader T.porter.iReader (ok_iReader T) hr (pa_cons (pv 0) pa_nil)))
   (pss_cons (ps_set (i := 3) sc_answers.nd rfl (Or.inl rfl) (pe_lst pa_nil))
   (pss_cons (ps_while own_pass (pt_truth (methN0 (pv 2) T.porter.cReader.cl T.porter.reader_has_more (ok_reader_has_more T) hr) (fun _ => rfl))
   (pss_cons (ps_set (i := 4) sc_answers.nd rfl (Or.inl rfl) (pe_lock (callX (ok_answer_call T) T.porter.answer_call hr passF (pa_cons (pv 1) (pa_cons (pv 2) pa_nil)))))
    (pss_cons (ps_expr (pe_bm PySem.F.plainAttrs_list PySem.F.slot_list_append PySem.F.type_list_append mt_append (pv 3) (pa_cons (pLenV T (pv 4)) pa_nil)))
    (pss_one (ps_expr (pe_bm PySem.F.plainAttrs_list PySem.F.slot_list_extend PySem.F.type_list_extend mt_extend (pv 3) (pa_cons (pv 4) pa_nil)))))))
   (pss_one (ps_ret (pv 3))))))), ?_⟩
  obtain ⟨cs, hcs, h300, hfine, heq⟩ : ∃ cs, PyFlat.calls PySn37.shape l.length l = some cs ∧ cs.length ≤ 300 ∧ Sn37Neutral.fine none (cs.map PySn37.whole) = true ∧ PySn37.answers l = PyFlat.told (PyFlat.played Sn37Neutral.step none (cs.map PySn37.whole)) := by
   unfold PySn37.answers_asked PySn37.calls at hask
   unfold PySn37.answers PySn37.calls
   cases e : PyFlat.calls PySn37.shape l.length l with
   | none => rw [e] at hask; cases hask
   | some cs =>
    rw [e] at hask
    have hask : (PyFlat.atMost 300 (cs.map PySn37.whole) && Sn37Neutral.asked (cs.map PySn37.whole)) = true := hask
    rw [Bool.and_eq_true] at hask
    have h1 := of_decide_eq_true hask.1
    rw [List.length_map] at h1
    have h2 := hask.2
    unfold Sn37Neutral.asked at h2
    rw [Bool.and_eq_true] at h2
    exact ⟨cs, rfl, h1, h2.2, rfl⟩
  intro po dp npo ndp nep
  refine ⟨po, dp, rfl, upd_same, fun H1 st1 => ⟨rfl, ?_⟩⟩
  have s1 : Same H H1 := made_same npo ndp st1
  refine ⟨_, rfl, ?_⟩
  intro r dr nr ndr ner
  refine ⟨r, dr, .ref a, rfl, upd_same, fun H2 st2 => ⟨rfl, ?_⟩⟩
  have s2 : Same H1 H2 := made_same nr ndr st2
  have s02 := s1.trans s2
  refine ⟨(by show 0 ≤ sizeLine; decide), fun D hD => ?_⟩
  have s3 : Same H2 (upd H2 D (.lst [])) := up hD
  have s03 := s02.trans s3
  have hDa : D ≠ a ∨ KSeq K a (ib l) := by
   rcases s02.seq ha with (h | ⟨o, h⟩) | h
   ·exact .inl (fun e => by rw [e, h] at hD; cases hD)
   ·exact .inl (fun e => by rw [e, h] at hD; cases hD)
   ·exact .inr h
  have hDpo : po ≠ D := ne_of_none (s2 _ _ st1.1) hD
  have hDr : r ≠ D := ne_of_none st2.1 hD
  refine ⟨fun m σ G => ∃ st k f cs2 out o4, σ = [some (.ref a), some (.ref po), some (.ref r), some (.ref D), o4] ∧ cs2.length = m ∧ (∀ od u, PoAt t (upd G D (.frz od u)) po st) ∧ RdAt K t G r dr a k l ∧ G D = some (.lst (ib out)) ∧ PyFlat.calls PySn37.shape f (l.drop k) = some cs2 ∧ Sn37Neutral.fine st (cs2.map PySn37.whole) = true ∧ m ≤ 300 ∧ Bd st (300 - m) out.length ∧
   out ++ PyFlat.told (PyFlat.played Sn37Neutral.step st (cs2.map PySn37.whole)) = PySn37.answers l, ⟨cs.length, none, 0, l.length, cs, [], none, rfl, rfl, fun od u => ⟨dp, .non, (by rw [upd_ne hDpo]; exact s3 _ _ (s2 _ _ st1.1)), rfl⟩, ⟨s3 _ _ st2.1, s03.seq ha⟩, upd_same, hcs, hfine, h300, ?_, heq.symm⟩, ?_⟩
  ·exact ⟨0, 0, 300 - cs.length, by omega, trivial, Nat.zero_le _⟩
  ·rintro m σ G ⟨st, k, f, cs2, out, o4, rfl, hm, hpo, hrd, hout, hcl, hfi, hm3, hbd, hans⟩
   refine ⟨_, rfl, r, dr, _, rfl, hrd.ob, fsReader_no "has_more", r, dr, a, k, l, rfl, hrd, _, rfl, ite2 (fun c => ?_) (fun c => ?_)⟩
   ·have c := of_decide_eq_true c
    have hdk : l.drop k = l[k] :: l.drop (k + 1) := List.drop_eq_getElem_cons c
    rw [hdk] at hcl
    have hnx := next_of hcl
    obtain ⟨c0, cs3, rfl⟩ := hnx.cons
    have hfc := fine_cons (c := PySn37.whole c0) (cs := cs3.map PySn37.whole) hfi
    rw [← hdk] at hnx
    rw [List.length_cons] at hm
    refine ⟨fun σ' H' => ∃ m', m' < m ∧ ∃ st k f cs2 out o4, σ' = [some (.ref a), some (.ref po), some (.ref r), some (.ref D), o4] ∧ cs2.length = m' ∧ (∀ od u, PoAt t (upd H' D (.frz od u)) po st) ∧ RdAt K t H' r dr a k l ∧ H' D = some (.lst (ib out)) ∧ PyFlat.calls PySn37.shape f (l.drop k) = some cs2 ∧ Sn37Neutral.fine st (cs2.map PySn37.whole) = true ∧ m' ≤ 300 ∧ Bd st (300 - m') out.length ∧
     out ++ PyFlat.told (PyFlat.played Sn37Neutral.step st (cs2.map PySn37.whole)) = PySn37.answers l, fun σ' H' h => h, ?_⟩
    refine ⟨D, _, hout, trivial, fun od => ?_⟩
    have hpo1 := hpo od (.lst (ib out))
    have hstep := bd_step hbd hpo1.st_ok hnx rfl
    rw [show 300 - m + 1 = 300 - (m - 1) by omega] at hstep
    have hbig := bd_all hstep (by omega)
    have hrd1 : RdAt K t (upd G D (.frz od (.lst (ib out)))) r dr a k l := ⟨by rw [upd_ne hDr]; exact hrd.ob, sq_upd hrd.li hDa⟩
    refine ⟨_, rfl, _, rfl, po, r, dr, a, k, l, st, c0 :: cs3, rfl, hpo1, hrd1, hnx, fun c cs' e => (by rw [← (List.cons.inj e).1]; exact hfc.1), fun c cs' la G2 k' f' e nla kl hrd2 hcl2 hpo2 l2 => ⟨kl D (.frz od (.lst (ib out))) trivial upd_same, ?_⟩⟩
    obtain ⟨rfl, rfl⟩ := List.cons.inj e
    have hD2 := kl D (.frz od (.lst (ib out))) trivial upd_same
    have hlaD : la ≠ D := fun e => by rw [e, upd_same] at nla; cases nla
    have hans2 : out ++ (((Sn37Neutral.step st (PySn37.whole c0)).2.length : Int) :: ((Sn37Neutral.step st (PySn37.whole c0)).2 ++ PyFlat.told (PyFlat.played Sn37Neutral.step (Sn37Neutral.step st (PySn37.whole c0)).1 (cs3.map PySn37.whole)))) = PySn37.answers l := hans
    have hfc2 := hfc.2
    generalize (Sn37Neutral.step st (PySn37.whole c0)).1 = st2 at hstep hpo2 hans2 hfc2
    generalize (Sn37Neutral.step st (PySn37.whole c0)).2 = an2 at hstep hbig l2 hans2
    refine ⟨_, rfl, .inl ⟨rfl, _, SqL.of upd_same⟩, _, rfl, la, _, rfl, .inl (SqL.of (by rw [upd_ne hlaD]; exact l2)), D, _, _, rfl, rfl, upd_same, ?_, ?_⟩
    ·rw [List.length_map]
     exact Nat.lt_of_le_of_lt (show _ ≤ 16000000 by omega) (by decide)
    rw [upd_upd]
    refine ⟨_, rfl, .inl ⟨rfl, _, SqL.of upd_same⟩, _, rfl, D, la, _, _, rfl, rfl, upd_same, (by rw [upd_ne hlaD]; exact l2), ?_, ?_⟩
    ·rw [List.length_append, List.length_map, List.length_map]
     exact Nat.le_trans (show _ + 1 + _ ≤ 16000000 by omega) (by decide)
    rw [upd_upd]
    have hr2 : r ≠ D := ne_of hrd2.ob hD2 (by intro z; cases z)
    refine ⟨m - 1, by omega, st2, k', f', cs3, out ++ ((an2.length : Int) :: an2), _, rfl, by omega, fun od' u' => ?_, ⟨by rw [upd_ne hr2]; exact hrd2.ob, ?_⟩, ?_, hcl2, hfc2, by omega, ?_, ?_⟩
    ·rw [upd_upd]
     exact hpo2.offz hD2 (fun b u hb e => by rw [upd_ne hb]; exact e)
    ·exact sq_upd hrd2.li hDa
    ·rw [upd_same, List.length_map]
     unfold ib
     rw [List.map_append, List.map_cons, List.append_assoc]
     rfl
    ·rw [List.length_append, List.length_cons]
     exact hstep
    ·rw [← hans2, List.append_assoc]
     rfl
   ·have c : ¬ k < l.length := fun z => c (decide_eq_true z)
    rw [List.drop_of_length_le (by omega)] at hcl
    have e0 : cs2 = [] := by
     cases f with
     | zero => exact (Option.some.inj hcl).symm
     | succ f => exact (Option.some.inj hcl).symm
    subst e0
    have hans : out ++ [] = PySn37.answers l := hans
    rw [List.append_nil] at hans
    rw [hans] at hout
    exact ⟨_, rfl, q D G hout⟩
end
end Dw
namespace Dw
open PySem L2 PySem.W PySem.Calls PyProof.Rows
theorem reads_ints {R : WRecords} {cl : Str → Option Addr} {h : Heap} : ∀ {ns : List Int} {its : List Value}, Vals (ib ns) its → ReadsAllW R cl h its (ns.map WData.int) []
 | [], _, r => by
  cases r
  exact .nil
 | n :: ns, _, r => by
  cases r with
  | cons a b =>
   obtain ⟨u, rfl⟩ := a
   exact .cons (as := []) (bs := []) (.int n u) (reads_ints b)
abbrev theRow : OpenSpec := PySem.Challenge.rw_doorward_s01_answers
theorem script_ofS {P : Params} {h : Heap} {args : List WData} {vals : List Value} (hpre : theRow.pre args = true) (hwl : WellAll P h vals args) :
  ∃ a vs ns, vals = [Value.ref a] ∧ h.get? a = some { cls := .type "list", data := .seq vs.toArray } ∧ IntsAre vs ns ∧ ns.length ≤ 30000 ∧ PySn37.answers_asked ns = true ∧ ∀ d, d = WData.list ((PySn37.answers ns).map WData.int) → theRow.post args d = true := by
 unfold OpenSpec.pre at hpre
 cases e : Codec.decAll theRow.args args with
 | none => rw [e] at hpre; cases hpre
 | some x =>
  rw [e] at hpre
  obtain ⟨e1, e2⟩ := Codec.encAll_of_decAll _ _ _ e
  have hx : ∃ ns : List Int, x = (ns, ()) := ⟨x.1, rfl⟩
  obtain ⟨ns, rfl⟩ := hx
  have e1 : args = [WData.list (ns.map WData.int)] := e1
  have e2 : (Codec.inLen 0 30000 ns && ns.all (Codec.inInt (-2147483648) 4294967295) && true) = true := e2
  have hask : PySn37.answers_asked ns = true := hpre
  rw [Bool.and_true, Bool.and_eq_true] at e2
  have hl := (Codec.inNat_iff.mp (show Codec.inNat 0 30000 ns.length = true from e2.1)).2
  have hp : ∀ d, d = WData.list ((PySn37.answers ns).map WData.int) → theRow.post args d = true := by
   intro d hd
   unfold OpenSpec.post
   rw [e]
   exact same_iff.mpr hd
  subst e1
  cases hwl with
  | cons w1 w2 =>
   cases w2
   cases w1 with
   | list ho hall => exact ⟨_, _, ns, rfl, ho, Att.ints_of_wellAll ns _ hall, hl, hask, hp⟩
theorem law_callS {P : Program} {w : World} {K : PySem.W.Frag} {mg mb : Str → Option Value} {k : Nat} {fa a : Addr} {fd : FuncData} {x : Str} {s₁ : Shared} {vs : List Value} {ns : List Int}
  (KX : K.In s₁.heap) (hns : s₁.heap.Ns mainGlobals mg) (hb : s₁.heap.Ns builtinsNs mb) (hbb : ∀ x : Str, x ≠ "__name__" → mb x = bootBuiltins x) (hlim : s₁.heap.NoLimit) (hg : s₁.gens = #[])
  (ha : s₁.heap.get? a = some { cls := .type "list", data := .seq vs.toArray }) (hi : IntsAre vs ns) (hl : ns.length ≤ sizeLine) (hr : Room k callerA) (hask : PySn37.answers_asked ns = true)
  (F : ∀ base : Heap, FnOk P w K mg base (CXF P w) k fa fd [x] (spAnswers K)) (hbind : BindsTo s₁ fd ⟨[.ref a], []⟩ [(x, .ref a)]) :
  codeAny (model P w) callerA (.call (.ref fa) ⟨[.ref a], []⟩) (fun r s' => (∃ D its n, r = .ok (.ret (.ref D)) ∧ s'.heap.get? D = some { cls := .type "list", data := .seq its n } ∧ Vals (ib (PySn37.answers ns)) its.toList) ∧ OldK s₁.heap s'.heap ∧ s'.os = s₁.os ∧ AllBare s'.gens) s₁ := by
 have rv := vals_ints hi
 have lenV := hi.length
 have core : ∀ H : Hp, Only H → SqL K H a (ns.map V.int) → HOk P w H s₁.heap → (∀ b, H b ≠ none → b = a) → (H a ≠ none → K.lookup a = none) →
   codeAny (model P w) callerA (.call (.ref fa) ⟨[.ref a], []⟩) (fun r s' => (∃ D its n, r = .ok (.ret (.ref D)) ∧ s'.heap.get? D = some { cls := .type "list", data := .seq its n } ∧ Vals (ib (PySn37.answers ns)) its.toList) ∧ OldK s₁.heap s'.heap ∧ s'.os = s₁.os ∧ AllBare s'.gens) s₁ := by
  intro H hO hS hok hA hK
  have base_of : ∀ {b : Addr} {o : Obj}, s₁.heap.get? b = some o → H b = none → (hidT s₁.heap H).get? b = some o := fun e n => hidT_get e n
  have noA : ∀ {b : Addr} {o : Obj} {es : Array DictEntry} {ep : Nat}, s₁.heap.get? b = some o → o.data = .dict es ep → H b = none := fun {b o es ep} e d => by
   cases q : H b with
   | none => rfl
   | some u =>
    have e' : b = a := hA b (by rw [q]; simp)
    subst e'
    rw [ha] at e; cases e
    have d' : Data.seq vs.toArray _ = Data.dict es ep := d
    cases d'
  have nsK : ∀ {b : Addr} {m : Str → Option Value}, s₁.heap.Ns b m → (hidT s₁.heap H).Ns b m := fun {b m} ⟨o, es, ep, e, d, r⟩ => ⟨o, es, ep, base_of e (noA e d), d, r⟩
  have hKb : K.In (hidT s₁.heap H) := fun b o e => base_of (KX b o e) (by
   cases q : H b with
   | none => rfl
   | some u =>
    have e' : b = a := hA b (by rw [q]; simp)
    subst e'
    rw [hK (by rw [q]; simp)] at e; cases e)
  have hM : Mod K mg (hidT s₁.heap H) := ⟨hKb, nsK hns, ⟨mb, nsK hb, hbb⟩, let ⟨mc, h1, h2⟩ := hlim; ⟨mc, nsK h1, h2⟩⟩
  have e0 : Env0 P w K mg (hidT s₁.heap H) callerA [] s₁ H := ⟨rfl, hM, fun b o e => of_hidT e, Nat.le_of_eq (hidT_size _ _), trivial, fun b hb => absurd (show b ∈ ([] : List Addr) from hb) (by simp), hok, .of_eq hg⟩
  refine codeAny_mono ((F (hidT s₁.heap H)).run callerA [] s₁ H ⟨[.ref a], []⟩ [.ref a] [.ref a] (fun v H' => ∃ D, v = .ref D ∧ H' D = some (.lst (ib (PySn37.answers ns)))) (fun _ _ _ => False) hr e0 hbind (.cons rfl .nil) ⟨a, ns, rfl, hS, hask, fun D H' e => ⟨D, rfl, e⟩⟩) fun r s' h => ?_
  cases r with
  | error e =>
   obtain ⟨_, _, _, _, _, _, _, _, z⟩ := h
   exact z.elim
  | ok fl =>
   cases fl with
   | next => exact False.elim h
   | brk => exact False.elim h
   | cont => exact False.elim h
   | ret u =>
    obtain ⟨v, H', os, bare, un, hok', r', D, rfl, hD⟩ := h
    obtain rfl : u = Value.ref D := r'
    obtain ⟨_, its, n, vr, hget⟩ := hok' D _ hD
    refine ⟨⟨D, its.toArray, n, rfl, hget, vr⟩, OldK.of_keep fun b o e => ?_, os, bare⟩
    cases q : H b with
    | none => exact un.keep b o e q (by intro z; exact absurd (show b ∈ ([] : List Addr) from z) (by simp)) (by simp)
    | some u =>
     rcases hO b with z | ⟨ob, xs, z⟩
     ·rw [q] at z; cases z
     ·have z2 := un.frzs b ob _ z
      obtain ⟨e1, _⟩ := hok b _ z
      obtain ⟨e2, _⟩ := hok' b _ z2
      rw [e] at e1; cases e1
      exact e2
 cases hk : K.lookup a with
 | some o =>
  have e := KX a o hk
  rw [ha] at e
  cases e
  refine core (fun _ => none) (fun _ => .inl rfl) (.inr ⟨_, vs.toArray, _, hk, rfl, rfl, rfl, by rw [List.size_toArray, lenV]; exact hl, by simpa using rv⟩) (fun b u z => by have z' : (none : Option HO) = some u := z; cases z') (fun b z => absurd rfl z) fun z => absurd rfl z
 | none =>
  refine core (fun b => if b = a then some (.frz { cls := .type "list", data := .seq vs.toArray } (.lst (ns.map V.int))) else none) (fun b => ?_) (.inl (.inr ⟨{ cls := .type "list", data := .seq vs.toArray }, if_pos rfl⟩)) (fun b u z => ?_) (fun b z => ?_) fun _ => hk
  ·by_cases hb : b = a
   ·exact .inr ⟨_, _, if_pos hb⟩
   ·exact .inl (if_neg hb)
  ·by_cases hb : b = a
   ·have z' := (if_pos hb).symm.trans z
    cases z'
    subst hb
    exact ⟨ha, by rw [List.length_map]; exact hl, vs, _, rv, ha⟩
   ·have z' := (if_neg hb).symm.trans z
    cases z'
  ·by_cases hb : b = a
   ·exact hb
   ·exact absurd (if_neg hb) z
theorem walk_ofS {q : Program} {loose : List Str} {XP : (Str → Option Value) → Heap → Prop} {YP : World → Heap → Prop} {d : DefRec} {K : Params → PySem.W.Frag} {k : Nat} {x : Str} (hdf : d.params.defaults = []) (hr : Room k callerA)
  (hY : ∀ (w : World) (h : Heap), YP w h → (K w.params).In h)
  (F : ∀ (w : World) (mg : Str → Option Value) (fa : Addr) (h : Heap), (K w.params).In h → h.Ns mainGlobals mg → mg d.name = some (.ref fa) →
   ∃ fd : FuncData, (∀ (s : Shared) (u : Value), (K w.params).In s.heap → BindsTo s fd ⟨[u], []⟩ [(x, u)]) ∧ ∀ base : Heap, FnOk theRow.prog w (K w.params) mg base (CXF theRow.prog w) k fa fd [x] (spAnswers (K w.params))) :
  WalkOS q loose XP YP theRow d [] (fun f vs => PySem.call f vs) := by
 intro w s₀ s₁ mg mb G Y fa o pm cd doc dV kV ho hd hcd hD hmg hg args vals as hpre hlay hrd hwl hlo
 obtain rfl : dV = .none := Dflts.none hD hdf
 obtain rfl : kV = .none := Dflts.noKw hD
 obtain ⟨a, vs, ns, rfl, hobj, hints, hlen, hask, hpost⟩ := script_ofS hpre hwl
 have KX := hY w _ Y
 obtain ⟨fd, hb, hF⟩ := F w mg fa _ KX G.T.g hmg
 refine enter_call (codeAny_mono (law_callS KX G.T.g G.T.b G.T.builtins G.T.nolimit hg hobj hints (Nat.le_trans hlen (by decide)) hr hask hF (hb s₁ (.ref a) KX)) fun r s' hq => ?_)
 obtain ⟨⟨D, its, n, rfl, hget, vr⟩, h2, h3, h4⟩ := hq
 exact ⟨.inl ⟨.ref D, .list ((PySn37.answers ns).map WData.int), [D], rfl, fun _ => rfl, .list hget rfl rfl (reads_ints vr), hpost _ rfl, fun z => absurd z Bool.false_ne_true⟩, h2, h3, h4⟩
end Dw
namespace Dw
open PySem L2 PySem.W
section
variable {K : PySem.W.Frag} {h : Heap} {mg : Str → Option Value} {x qual : Str} {st : Stmt} {ps : List Str} {a C : Addr} {oc : Value} {od an : Option Addr} {osl : Array (Option Value)} {kV doc pm cdv ct : Value}
theorem fd_ex (e2 : K.lookup a = some ⟨oc, od, .func (fnOf x qual (defArgs st) (defBody st) (defScope st) .none kV doc pm an cdv ct), osl⟩) (e3 : codeIn K cdv qual = true) (e4 : keepIn K (.ref a) = true)
  (hb : ∀ us : List Value, us.length = ps.length → bindArgs (fnOf x qual (defArgs st) (defBody st) (defScope st) .none kV doc pm an cdv ct) ⟨us, []⟩ = pure (ps.zip us)) :
  Fd K x qual st ps ⟨a, fnOf x qual (defArgs st) (defBody st) (defScope st) .none kV doc pm an cdv ct⟩ := ⟨fun_mk e2 e3 e4, .all hb⟩
theorem gd_ex {f : Fn} (KX : K.In h) (G : h.Ns mainGlobals mg) (e1 : nsIn K mainGlobals x = some (some (.ref f.a))) (F : Fd K x x st ps f) : Gd K mg x st ps f := ⟨F, mg_of KX G e1⟩
theorem md_ex {f : Fn} (e1 : findIn K (.ref C) x = some (some (.ref f.a))) (e2 : isFn K (.ref f.a) = true) (F : Fd K x qual st ps f) : Md K C x qual st ps f := ⟨F, e1, e2, F.fn.kp⟩
theorem no_nil : ∀ f, f ∈ ([] : List Str) → NoAttr K C f := fun _ h => nomatch h
theorem no_cons {g : Str} {l : List Str} (e : findIn K (.ref C) g = some none) (r : ∀ f, f ∈ l → NoAttr K C f) : ∀ f, f ∈ g :: l → NoAttr K C f := fun f h => (List.mem_cons.mp h).elim (fun z => z ▸ e) (r f)
theorem kl_ex {i : Fn} {at_ : List Str} (KX : K.In h) (G : h.Ns mainGlobals mg) (e1 : nsIn K mainGlobals x = some (some (.ref C))) (pg : plainGet K C Str.empty = true) (hd : hasDictIn K C = true) (po : plainOver K C = true)
  (sa : findIn K (.ref C) "__setattr__" = some (some (.builtin "object.__setattr__"))) (mk : makesIn K C = true) (init : findIn K (.ref C) "__init__" = some (some (.ref i.a))) (fn : isFn K (.ref i.a) = true) (kp : keepIn K (.ref C) = true) (no : ∀ f, f ∈ at_ → NoAttr K C f) :
  Kl K mg x C i at_ := ⟨⟨pg, hd, po, sa⟩, ⟨mk, init, fn, kp⟩, mg_of KX G e1, no⟩
theorem int_nil : ∀ x n, (x, n) ∈ ([] : List (Str × Int)) → ∃ u, mg x = some (.int n u) := fun _ _ h => nomatch h
theorem int_cons {y : Str} {m : Int} {u : Tok} {l : List (Str × Int)} (KX : K.In h) (G : h.Ns mainGlobals mg) (e : nsIn K mainGlobals y = some (some (.int m u))) (r : ∀ x n, (x, n) ∈ l → ∃ u, mg x = some (.int n u)) : ∀ x n, (x, n) ∈ (y, m) :: l → ∃ u, mg x = some (.int n u) := by
 intro x n hm
 rcases List.mem_cons.mp hm with z | hm
 ·cases z
  exact ⟨u, mg_of KX G e⟩
 ·exact r x n hm
theorem str_ex {y s : Str} {u : Tok} (KX : K.In h) (G : h.Ns mainGlobals mg) (e : nsIn K mainGlobals x = some (some (.str s u))) (hs : s = y) : ∃ u, mg x = some (.str y u) := ⟨u, hs ▸ mg_of KX G e⟩
theorem blt_nil : ∀ x, x ∈ ([] : List Str) → mg x = none := fun _ h => nomatch h
theorem blt_cons {y : Str} {l : List Str} (KX : K.In h) (G : h.Ns mainGlobals mg) (e : nsIn K mainGlobals y = some none) (r : ∀ x, x ∈ l → mg x = none) : ∀ x, x ∈ y :: l → mg x = none := fun x hm => (List.mem_cons.mp hm).elim (fun z => z ▸ mg_none_of KX G e) (r x)
theorem tup_ex {xs : List V} {od : Option Addr} {its : Array Value} {n : Nat} {sl : Array (Option Value)} (e : K.lookup a = some ⟨.type "tuple", od, .seq its n, sl⟩) (hz : its.size ≤ sizeLine) (r : Vals xs its.toList) : TupIn K a xs := fun _ => .inr ⟨_, its, n, e, rfl, rfl, hz, r⟩
theorem exc_ex (KX : K.In h) (G : h.Ns mainGlobals mg) (e1 : nsIn K mainGlobals x = some (some (.ref C))) (ob : excIn K C [.type "Exception", .type "BaseException", .type "object"] "Exception.__new__" = true) (kp : keepIn K (.ref C) = true) : ExcC K mg x C := ⟨mg_of KX G e1, ob, kp⟩
theorem tl_line : typeLookup (.type "Exception") "line_number" = pure none := by
 rw [typeLookup_type, builtinLookup_eq_fast]
 kernel_rfl
theorem exci_ex {f y nm q : Str} {C fI N : Addr} {bs : List Value} {sn : List Str} {sub : List Value} {ab : Bool} {col : Option Bool} {dd : Option Addr} {k0 k1 k2 k3 k5 : Option Value} {p1 p2 p3 p4 : Pos} {params : Arguments} {scope : Scope} (KX : K.In h) (G : h.Ns mainGlobals mg)
  (e1 : nsIn K mainGlobals x = some (some (.ref C))) (e2 : keepIn K (.ref C) = true) (e3 : K.lookup C = some (excClassObj nm q C N bs bmX true sn sub ab col dd k0 k1 k2 k3 k5 "Exception.__new__")) (e4 : nsOkIn K N = true) (e5 : nsIn K N "__init__" = some (some (.ref fI)))
  (e6 : nsIn K N f = some none) (e7 : nsIn K N "__getattribute__" = some none) (e8 : nsIn K N "__getattr__" = some none) (e9 : findIn K (.ref C) "__setattr__" = some (some (.builtin "object.__setattr__"))) (e10 : findIn K (.ref C) f = some none) (tl : typeLookup (.type "Exception") f = pure none)
  (d1 : K.lookup fI = some ⟨oc, od, .func (fnOf "__init__" qual params [.Assign [.Attribute (.Name "self" p1) f p2] (.Name y p3) p4] scope .none kV doc pm an cdv ct), osl⟩) (d2 : codeIn K cdv qual = true) (s1 : oc = .type "function")
  (d3 : ∀ u v, bindArgs (fnOf "__init__" qual params [.Assign [.Attribute (.Name "self" p1) f p2] (.Name y p3) p4] scope .none kV doc pm an cdv ct) ⟨[u, v], []⟩ = pure [(("self" : Str), u), (y, v)])
  (s2 : scope.kind = .function) (s3 : scope.isCoroutine = false) (s4 : scope.isGenerator = false) (s5 : scope.names.lookup ("self" : Str) = some .local) (s6 : scope.names.lookup y = some .local) (d4 : ("self" : Str) ≠ y) (d5 : (y == ("__debug__" : Str)) = false) : ExcI K mg x f y qual C fI :=
 ⟨mg_of KX G e1, e2, ⟨N, nm, q, bs, sn, sub, ab, col, dd, k0, k1, k2, k3, k5, e3, e4, e5, e6, e7, e8⟩, e9, e10, tl, ⟨p1, p2, p3, p4, oc, od, an, kV, doc, pm, cdv, ct, osl, params, scope, d1, d2, s1, d3, s2, s3, s4, s5, s6, d4, d5⟩⟩
end
end Dw
namespace PySem.W.Fast
def tw14817155234035432842:=0
def tw16432971413239945229:=0
def tw15928733941177049664:=0
def tw6142532458368990990:=0
def tw11987251442958126682:=0
def tw12687030072416869935:=0
def tw3965422582885164861:=0
def tw863451141406793657:=0
def tw3270702644235780903:=0
def tw7916362506909639872:=0
def tw1442722458333456752:=0
def tw2748658277513931571:=0
def tw12753788448167121108:=0
def tw14966941330542208845:=0
def tw17320765826870544507:=0
def tw16436825719134337696:=0
def tw9977566088120818145:=0
def tw8312645873580821225:=0
def tw6003770337354569526:=0
def tw1593101187588957673:=0
def tw12518221336765533117:=0
def tw1685968872229092789:=0
def tw10888670894516474713:=0
def tw5824040035096605514:=0
def tw7599666226966785038:=0
def tw3191581852704813847:=0
def tw7232334142738121615:=0
def tw9576368691365391523:=0
def tw4611199732664196709:=0
def tw13898739963799656545:=0
def tw7721871222373188064:=0
def tw13190031306289531000:=0
def tw2679478508404831282:=0
def tw5234259665969545796:=0
def tw7506791266077152883:=0
def tw16560960893069201016:=0
def tw10751696217349901492:=0
def tw473806414733063907:=0
def tw15897479416810618472:=0
def tw16532641028995566306:=0
def tw4701588612206157340:=0
def tw17668273504717396993:=0
def tw9024507167916108839:=0
def tw6424484673608835879:=0
def tw3684249387294757358:=0
def tw17282281374774054890:=0
def tw17731218157554295481:=0
def tw16236858594354655508:=0
def tw16146416996958610542:=0
def tw8341757671473070463:=0
def tw7741287095262590911:=0
def tw2415981343995741711:=0
def tw9313218465136393268:=0
def tw10216596941282694216:=0
def tw9394186394228553864:=0
def tw9300260688380639161:=0
def tw3481482308771987992:=0
def tw15143629583205605510:=0
def tw8543893089635338899:=0
def tw12082783963622381657:=0
def tw513114450553401343:=0
def tw13181978952959950128:=0
def tw7308595039599627652:=0
def tw9992772702063233979:=0
def tw11414068765081395829:=0
def tw6342166870011031561:=0
def tw12705401374251230504:=0
def tw5698778362661622468:=0
def tw8655781575912558775:=0
def tw12056562999504758071:=0
def tw17080741156973124462:=0
def tw8860438752509440368:=0
def tw15761799047257292700:=0
def tw7375135851032665367:=0
def tw14744045912129675641:=0
def tw2058839424062644090:=0
def tw7492199308719275961:=0
def tw17231539414363729245:=0
def tw12093391319073297510:=0
def tw15512106987800469894:=0
def tw5080995677288653629:=0
def tw1056228821760983708:=0
def tw5906772458100374250:=0
def tw12637832857143780954:=0
def tw13036735086087704521:=0
def tw11301979531511723460:=0
def tw7090452171842482645:=0
def tw1672505107943029658:=0
def tw7061184436314151076:=0
def tw16700734647460814831:=0
def tw15854468646880073268:=0
def tw4981398766481702278:=0
def tw12998926078745017884:=0
def tw13817689413132984839:=0
def tw1462537394028177960:=0
def tw1990171455247354133:=0
def tw9233635763953926229:=0
def tw10805664806532203876:=0
def tw16905906546859913813:=0
def tw12174843719239491152:=0
def tw18235404529500477600:=0
def tw6677780915711329173:=0
def tw11637547186537629800:=0
def tw17543731145050140878:=0
def tw9782361068191182304:=0
def tw11338318564520393622:=0
def tw16399382574566803020:=0
def tw115767498754534505:=0
def tw7649766380779662677:=0
def tw4175228457848643147:=0
def tw5942622793696783581:=0
def tw16184271138521077585:=0
def tw5350253493523657544:=0
def tw14468434304700330933:=0
def tw3991168409062164414:=0
def tw10228958781749102416:=0
def tw10157779875274317929:=0
def tw12456637167622832021:=0
def tw14545886074302960267:=0
def tw18323608698210433092:=0
def tw4015209840148008650:=0
def tw4215364399738843260:=0
def tw15788048060334950379:=0
def tw14352730609747406510:=0
def tw17421294125326833109:=0
def tw12190043953816636367:=0
def tw3308967345284040344:=0
def tw17679231767418793691:=0
def tw5204399655221315093:=0
def tw10919100591303170160:=0
def tw14228583726168740030:=0
def tw7684670070953894742:=0
def tw17062493830815131716:=0
def tw11209482053616053160:=0
def tw7231413395505400464:=0
def tw4528425488355564737:=0
def tw2416761017236895213:=0
def tw9355974731018554682:=0
def tw9055126503543468621:=0
def tw5564928046344258751:=0
def tw5133694713075168992:=0
def tw14495793219731732767:=0
def tw4281142878585984674:=0
def tw8495788328307140060:=0
def tw8113992493368393385:=0
def tw6265553277318715226:=0
def tw3101512196767639378:=0
def tw1916812645064297870:=0
def tw4789490428953992742:=0
def tw14040224569833911630:=0
def tw4400241686004850070:=0
def tw8318497908592740894:=0
def tw17135354383263687302:=0
def tw9094741617954605462:=0
def tw15961687647710529219:=0
def tw7911598799696140322:=0
def tw11030313684749037661:=0
def tw16788634465943946684:=0
def tw16561677925122940554:=0
def tw9829946402961365245:=0
def tw10497325109986926759:=0
def tw15426955149158264470:=0
def tw17876402597857149047:=0
def tw15663525957869650283:=0
def tw12279933219717826231:=0
def tw8234804822033267498:=0
def tw6971361535989303381:=0
def tw4756780211994515665:=0
def tw4766863019230229185:=0
def tw18010702323497108259:=0
def tw17353758321521130447:=0
def tw7374825587475900512:=0
def tw3487788083401534650:=0
def tw15019696437496538217:=0
def tw10102521099464562350:=0
def tw12130355199734155609:=0
def tw3738158061056403554:=0
def tw5771912336548910700:=0
def tw12464226511336525804:=0
def tw9349542572917346001:=0
def tw4742312089621186394:=0
def tw240955889821606451:=0
def tw3496020564147029783:=0
def tw15682644042792353179:=0
end PySem.W.Fast
open PySem PySem.W PyProof.Rows
set_option maxRecDepth 100000 in
set_option maxHeartbeats 0 in
theorem PySem.Challenge.cw_doorward_s01_answers_holds : PySem.Challenge.rw_doorward_s01_answers.Holds := by
 w_on; k_headS
 case hw => exact ⟨[.list [.int 0, .int 0]], by decide +kernel, by decide +kernel⟩
 k_fillS
 refine Dw.walk_ofS (k := 11) (x := "calls") rfl ⟨rfl, by decide, by decide⟩ (fun w h Y => PySem.W.kIn_of Y) ?F
 intro w mg fa h KX G hmg
 obtain ⟨f_low_first, g_low_first⟩ : ∃ f, Dw.Gd (L2.KOf KX) mg "low_first" (Dw.top 5) ["number", "size"] f := by
  dsimp only [L2.KOf]
  refine' ⟨⟨_, _⟩, Dw.gd_ex KX G ?e1 (Dw.fd_ex ?e2 ?e3 ?e4 ?b)⟩
  (case e1 => k_is)
  (case e2 => k_is)
  (case e3 => k_is)
  (case e4 => k_is)
  (case b => exact fun us hl => match us, hl with | [_, _], _ => rfl)
 obtain ⟨f_padded, g_padded⟩ : ∃ f, Dw.Gd (L2.KOf KX) mg "padded" (Dw.top 6) ["message"] f := by
  dsimp only [L2.KOf]
  refine' ⟨⟨_, _⟩, Dw.gd_ex KX G ?e1 (Dw.fd_ex ?e2 ?e3 ?e4 ?b)⟩
  (case e1 => k_is)
  (case e2 => k_is)
  (case e3 => k_is)
  (case e4 => k_is)
  (case b => exact fun us hl => match us, hl with | [_], _ => rfl)
 obtain ⟨f_words_of, g_words_of⟩ : ∃ f, Dw.Gd (L2.KOf KX) mg "words_of" (Dw.top 7) ["block"] f := by
  dsimp only [L2.KOf]
  refine' ⟨⟨_, _⟩, Dw.gd_ex KX G ?e1 (Dw.fd_ex ?e2 ?e3 ?e4 ?b)⟩
  (case e1 => k_is)
  (case e2 => k_is)
  (case e3 => k_is)
  (case e4 => k_is)
  (case b => exact fun us hl => match us, hl with | [_], _ => rfl)
 obtain ⟨f_stirred, g_stirred⟩ : ∃ f, Dw.Gd (L2.KOf KX) mg "stirred" (Dw.top 8) ["state", "block"] f := by
  dsimp only [L2.KOf]
  refine' ⟨⟨_, _⟩, Dw.gd_ex KX G ?e1 (Dw.fd_ex ?e2 ?e3 ?e4 ?b)⟩
  (case e1 => k_is)
  (case e2 => k_is)
  (case e3 => k_is)
  (case e4 => k_is)
  (case b => exact fun us hl => match us, hl with | [_, _], _ => rfl)
 obtain ⟨f_md5, g_md5⟩ : ∃ f, Dw.Gd (L2.KOf KX) mg "md5" (Dw.top 9) ["message"] f := by
  dsimp only [L2.KOf]
  refine' ⟨⟨_, _⟩, Dw.gd_ex KX G ?e1 (Dw.fd_ex ?e2 ?e3 ?e4 ?b)⟩
  (case e1 => k_is)
  (case e2 => k_is)
  (case e3 => k_is)
  (case e4 => k_is)
  (case b => exact fun us hl => match us, hl with | [_], _ => rfl)
 obtain ⟨f_keyed_md5, g_keyed_md5⟩ : ∃ f, Dw.Gd (L2.KOf KX) mg "keyed_md5" (Dw.top 10) ["key", "message"] f := by
  dsimp only [L2.KOf]
  refine' ⟨⟨_, _⟩, Dw.gd_ex KX G ?e1 (Dw.fd_ex ?e2 ?e3 ?e4 ?b)⟩
  (case e1 => k_is)
  (case e2 => k_is)
  (case e3 => k_is)
  (case e4 => k_is)
  (case b => exact fun us hl => match us, hl with | [_, _], _ => rfl)
 obtain ⟨a_START, e_START, t_START⟩ : ∃ a, mg "START" = some (.ref a) ∧ Dw.TupIn (L2.KOf KX) a (Dw.nb [1732584193, 4023233417, 2562383102, 271733878]) := by
  dsimp only [L2.KOf]
  refine' ⟨_, PySem.W.mg_of KX G ?e1, Dw.tup_ex ?e2 ?z ?r⟩
  (case e1 => k_is)
  (case e2 => k_is)
  (case z => decide)
  (case r => repeat (first | exact .nil | refine' .cons ⟨_, rfl⟩ ?_))
 obtain ⟨a_SINES, e_SINES, t_SINES⟩ : ∃ a, mg "SINES" = some (.ref a) ∧ Dw.TupIn (L2.KOf KX) a (Dw.nb [3614090360, 3905402710, 606105819, 3250441966, 4118548399, 1200080426, 2821735955, 4249261313, 1770035416, 2336552879, 4294925233, 2304563134, 1804603682, 4254626195, 2792965006, 1236535329, 4129170786, 3225465664, 643717713, 3921069994, 3593408605, 38016083, 3634488961, 3889429448, 568446438, 3275163606, 4107603335, 1163531501, 2850285829, 4243563512, 1735328473, 2368359562, 4294588738, 2272392833, 1839030562, 4259657740, 2763975236, 1272893353, 4139469664, 3200236656, 681279174, 3936430074, 3572445317, 76029189, 3654602809, 3873151461, 530742520, 3299628645, 4096336452, 1126891415, 2878612391, 4237533241, 1700485571, 2399980690, 4293915773, 2240044497, 1873313359, 4264355552, 2734768916, 1309151649, 4149444226, 3174756917, 718787259, 3951481745]) := by
  dsimp only [L2.KOf]
  refine' ⟨_, PySem.W.mg_of KX G ?e1, Dw.tup_ex ?e2 ?z ?r⟩
  (case e1 => k_is)
  (case e2 => k_is)
  (case z => decide)
  (case r => repeat (first | exact .nil | refine' .cons ⟨_, rfl⟩ ?_))
 obtain ⟨a_TURNS, e_TURNS, t_TURNS⟩ : ∃ a, mg "TURNS" = some (.ref a) ∧ Dw.TupIn (L2.KOf KX) a (Dw.nb [7, 12, 17, 22, 5, 9, 14, 20, 4, 11, 16, 23, 6, 10, 15, 21]) := by
  dsimp only [L2.KOf]
  refine' ⟨_, PySem.W.mg_of KX G ?e1, Dw.tup_ex ?e2 ?z ?r⟩
  (case e1 => k_is)
  (case e2 => k_is)
  (case z => decide)
  (case r => repeat (first | exact .nil | refine' .cons ⟨_, rfl⟩ ?_))
 obtain ⟨f_read_packet, g_read_packet⟩ : ∃ f, Dw.Gd (L2.KOf KX) mg "read_packet" (Dw.top 23) ["data"] f := by
  dsimp only [L2.KOf]
  refine' ⟨⟨_, _⟩, Dw.gd_ex KX G ?e1 (Dw.fd_ex ?e2 ?e3 ?e4 ?b)⟩
  (case e1 => k_is)
  (case e2 => k_is)
  (case e3 => k_is)
  (case e4 => k_is)
  (case b => exact fun us hl => match us, hl with | [_], _ => rfl)
 obtain ⟨f_read_attributes, g_read_attributes⟩ : ∃ f, Dw.Gd (L2.KOf KX) mg "read_attributes" (Dw.top 24) ["data"] f := by
  dsimp only [L2.KOf]
  refine' ⟨⟨_, _⟩, Dw.gd_ex KX G ?e1 (Dw.fd_ex ?e2 ?e3 ?e4 ?b)⟩
  (case e1 => k_is)
  (case e2 => k_is)
  (case e3 => k_is)
  (case e4 => k_is)
  (case b => exact fun us hl => match us, hl with | [_], _ => rfl)
 obtain ⟨f_attribute_bytes, g_attribute_bytes⟩ : ∃ f, Dw.Gd (L2.KOf KX) mg "attribute_bytes" (Dw.top 25) ["kind", "value"] f := by
  dsimp only [L2.KOf]
  refine' ⟨⟨_, _⟩, Dw.gd_ex KX G ?e1 (Dw.fd_ex ?e2 ?e3 ?e4 ?b)⟩
  (case e1 => k_is)
  (case e2 => k_is)
  (case e3 => k_is)
  (case e4 => k_is)
  (case b => exact fun us hl => match us, hl with | [_, _], _ => rfl)
 obtain ⟨f_with_zeros, g_with_zeros⟩ : ∃ f, Dw.Gd (L2.KOf KX) mg "with_zeros" (Dw.top 26) ["data", "place"] f := by
  dsimp only [L2.KOf]
  refine' ⟨⟨_, _⟩, Dw.gd_ex KX G ?e1 (Dw.fd_ex ?e2 ?e3 ?e4 ?b)⟩
  (case e1 => k_is)
  (case e2 => k_is)
  (case e3 => k_is)
  (case e4 => k_is)
  (case b => exact fun us hl => match us, hl with | [_, _], _ => rfl)
 obtain ⟨f_check_proof, g_check_proof⟩ : ∃ f, Dw.Gd (L2.KOf KX) mg "check_proof" (Dw.top 27) ["packet", "data", "secret"] f := by
  dsimp only [L2.KOf]
  refine' ⟨⟨_, _⟩, Dw.gd_ex KX G ?e1 (Dw.fd_ex ?e2 ?e3 ?e4 ?b)⟩
  (case e1 => k_is)
  (case e2 => k_is)
  (case e3 => k_is)
  (case e4 => k_is)
  (case b => exact fun us hl => match us, hl with | [_, _, _], _ => rfl)
 obtain ⟨f_make_answer, g_make_answer⟩ : ∃ f, Dw.Gd (L2.KOf KX) mg "make_answer" (Dw.top 28) ["packet", "secret", "code", "told"] f := by
  dsimp only [L2.KOf]
  refine' ⟨⟨_, _⟩, Dw.gd_ex KX G ?e1 (Dw.fd_ex ?e2 ?e3 ?e4 ?b)⟩
  (case e1 => k_is)
  (case e2 => k_is)
  (case e3 => k_is)
  (case e4 => k_is)
  (case b => exact fun us hl => match us, hl with | [_, _, _, _], _ => rfl)
 obtain ⟨c_NoAnswer, k_NoAnswer⟩ : ∃ C, L2.ExcC (L2.KOf KX) mg "NoAnswer" C := by
  dsimp only [L2.KOf]
  refine' ⟨_, Dw.exc_ex KX G ?e1 ?e2 ?e3⟩
  (case e1 => k_is)
  (case e2 => kernel_rfl)
  (case e3 => k_is)
 obtain ⟨c_Attribute, i_Attribute, k_Attribute, g_i_Attribute⟩ : ∃ c_Attribute i_Attribute, Dw.Kl (L2.KOf KX) mg "Attribute" c_Attribute i_Attribute ["kind", "place", "value"] ∧ Dw.Fd (L2.KOf KX) "__init__" "Attribute.__init__" (L2.inClass (Dw.top 21) 0) ["self", "kind", "place", "value"] i_Attribute := by
  dsimp only [L2.KOf]
  refine' ⟨_, ⟨_, _⟩, Dw.kl_ex KX G ?c1 ?c2 ?c3 ?c4 ?c5 ?c6 ?c7 ?c8 ?c9 ?n, Dw.fd_ex ?i2 ?i3 ?i4 ?ib⟩
  (case c1 => k_is)
  (case c2 => k_is)
  (case c3 => k_is)
  (case c4 => k_is)
  (case c5 => k_is)
  (case c6 => k_is)
  (case c7 => k_is)
  (case c8 => (dsimp only; k_is))
  (case c9 => k_is)
  (case n => (refine' Dw.no_cons ?q1 (Dw.no_cons ?q2 (Dw.no_cons ?q3 Dw.no_nil)); (case q1 => k_is); (case q2 => k_is); (case q3 => k_is)))
  (case i2 => k_is)
  (case i3 => k_is)
  (case i4 => k_is)
  (case ib => exact fun us hl => match us, hl with | [_, _, _, _], _ => rfl)
 obtain ⟨c_Packet, i_Packet, f_packet_all_of, f_packet_only, k_Packet, g_i_Packet, g_f_packet_all_of, g_f_packet_only⟩ : ∃ c_Packet i_Packet f_packet_all_of f_packet_only, Dw.Kl (L2.KOf KX) mg "Packet" c_Packet i_Packet ["data", "code", "number", "authenticator", "attributes"] ∧ Dw.Fd (L2.KOf KX) "__init__" "Packet.__init__" (L2.inClass (Dw.top 22) 0) ["self", "data", "attributes"] i_Packet ∧ Dw.Md (L2.KOf KX) c_Packet "all_of" "Packet.all_of" (L2.inClass (Dw.top 22) 1) ["self", "kind"] f_packet_all_of ∧ Dw.Md (L2.KOf KX) c_Packet "only" "Packet.only" (L2.inClass (Dw.top 22) 2) ["self", "kind"] f_packet_only := by
  dsimp only [L2.KOf]
  refine' ⟨_, ⟨_, _⟩, ⟨_, _⟩, ⟨_, _⟩, Dw.kl_ex KX G ?c1 ?c2 ?c3 ?c4 ?c5 ?c6 ?c7 ?c8 ?c9 ?n, Dw.fd_ex ?i2 ?i3 ?i4 ?ib, Dw.md_ex ?m1a ?m1b (Dw.fd_ex ?m1c ?m1d ?m1e ?m1f), Dw.md_ex ?m2a ?m2b (Dw.fd_ex ?m2c ?m2d ?m2e ?m2f)⟩
  (case c1 => k_is)
  (case c2 => k_is)
  (case c3 => k_is)
  (case c4 => k_is)
  (case c5 => k_is)
  (case c6 => k_is)
  (case c7 => k_is)
  (case c8 => (dsimp only; k_is))
  (case c9 => k_is)
  (case n => (refine' Dw.no_cons ?q1 (Dw.no_cons ?q2 (Dw.no_cons ?q3 (Dw.no_cons ?q4 (Dw.no_cons ?q5 Dw.no_nil)))); (case q1 => k_is); (case q2 => k_is); (case q3 => k_is); (case q4 => k_is); (case q5 => k_is)))
  (case i2 => k_is)
  (case i3 => k_is)
  (case i4 => k_is)
  (case ib => exact fun us hl => match us, hl with | [_, _, _], _ => rfl)
  (case m1a => k_is)
  (case m1b => (dsimp only; k_is))
  (case m1c => k_is)
  (case m1d => k_is)
  (case m1e => k_is)
  (case m1f => exact fun us hl => match us, hl with | [_, _], _ => rfl)
  (case m2a => k_is)
  (case m2b => (dsimp only; k_is))
  (case m2c => k_is)
  (case m2d => k_is)
  (case m2e => k_is)
  (case m2f => exact fun us hl => match us, hl with | [_, _], _ => rfl)
 obtain ⟨f_codes, g_codes⟩ : ∃ f, Dw.Gd (L2.KOf KX) mg "codes" (Dw.top 31) ["text"] f := by
  dsimp only [L2.KOf]
  refine' ⟨⟨_, _⟩, Dw.gd_ex KX G ?e1 (Dw.fd_ex ?e2 ?e3 ?e4 ?b)⟩
  (case e1 => k_is)
  (case e2 => k_is)
  (case e3 => k_is)
  (case e4 => k_is)
  (case b => exact fun us hl => match us, hl with | [_], _ => rfl)
 obtain ⟨f_hex_codes, g_hex_codes⟩ : ∃ f, Dw.Gd (L2.KOf KX) mg "hex_codes" (Dw.top 32) ["row"] f := by
  dsimp only [L2.KOf]
  refine' ⟨⟨_, _⟩, Dw.gd_ex KX G ?e1 (Dw.fd_ex ?e2 ?e3 ?e4 ?b)⟩
  (case e1 => k_is)
  (case e2 => k_is)
  (case e3 => k_is)
  (case e4 => k_is)
  (case b => exact fun us hl => match us, hl with | [_], _ => rfl)
 obtain ⟨f_parted, g_parted⟩ : ∃ f, Dw.Gd (L2.KOf KX) mg "parted" (Dw.top 33) ["row", "mark"] f := by
  dsimp only [L2.KOf]
  refine' ⟨⟨_, _⟩, Dw.gd_ex KX G ?e1 (Dw.fd_ex ?e2 ?e3 ?e4 ?b)⟩
  (case e1 => k_is)
  (case e2 => k_is)
  (case e3 => k_is)
  (case e4 => k_is)
  (case b => exact fun us hl => match us, hl with | [_, _], _ => rfl)
 have g_HEX_DIGITS : ∃ u, mg "HEX_DIGITS" = some (.str "0123456789abcdef" u) := by
  refine' Dw.str_ex (K := L2.KOf KX) KX G ?e1 ?e2
  (case e1 => (dsimp only [L2.KOf]; k_is))
  (case e2 => decide +kernel)
 obtain ⟨f_answer_access, g_answer_access⟩ : ∃ f, Dw.Gd (L2.KOf KX) mg "answer_access" (Dw.top 45) ["packet", "secret", "users", "sessions"] f := by
  dsimp only [L2.KOf]
  refine' ⟨⟨_, _⟩, Dw.gd_ex KX G ?e1 (Dw.fd_ex ?e2 ?e3 ?e4 ?b)⟩
  (case e1 => k_is)
  (case e2 => k_is)
  (case e3 => k_is)
  (case e4 => k_is)
  (case b => exact fun us hl => match us, hl with | [_, _, _, _], _ => rfl)
 obtain ⟨f_is_password_right, g_is_password_right⟩ : ∃ f, Dw.Gd (L2.KOf KX) mg "is_password_right" (Dw.top 46) ["packet", "secret", "user"] f := by
  dsimp only [L2.KOf]
  refine' ⟨⟨_, _⟩, Dw.gd_ex KX G ?e1 (Dw.fd_ex ?e2 ?e3 ?e4 ?b)⟩
  (case e1 => k_is)
  (case e2 => k_is)
  (case e3 => k_is)
  (case e4 => k_is)
  (case b => exact fun us hl => match us, hl with | [_, _, _], _ => rfl)
 obtain ⟨f_read_hashed, g_read_hashed⟩ : ∃ f, Dw.Gd (L2.KOf KX) mg "read_hashed" (Dw.top 47) ["packet"] f := by
  dsimp only [L2.KOf]
  refine' ⟨⟨_, _⟩, Dw.gd_ex KX G ?e1 (Dw.fd_ex ?e2 ?e3 ?e4 ?b)⟩
  (case e1 => k_is)
  (case e2 => k_is)
  (case e3 => k_is)
  (case e4 => k_is)
  (case b => exact fun us hl => match us, hl with | [_], _ => rfl)
 obtain ⟨f_read_challenge, g_read_challenge⟩ : ∃ f, Dw.Gd (L2.KOf KX) mg "read_challenge" (Dw.top 48) ["packet"] f := by
  dsimp only [L2.KOf]
  refine' ⟨⟨_, _⟩, Dw.gd_ex KX G ?e1 (Dw.fd_ex ?e2 ?e3 ?e4 ?b)⟩
  (case e1 => k_is)
  (case e2 => k_is)
  (case e3 => k_is)
  (case e4 => k_is)
  (case b => exact fun us hl => match us, hl with | [_], _ => rfl)
 obtain ⟨f_read_password, g_read_password⟩ : ∃ f, Dw.Gd (L2.KOf KX) mg "read_password" (Dw.top 49) ["packet", "secret"] f := by
  dsimp only [L2.KOf]
  refine' ⟨⟨_, _⟩, Dw.gd_ex KX G ?e1 (Dw.fd_ex ?e2 ?e3 ?e4 ?b)⟩
  (case e1 => k_is)
  (case e2 => k_is)
  (case e3 => k_is)
  (case e4 => k_is)
  (case b => exact fun us hl => match us, hl with | [_, _], _ => rfl)
 obtain ⟨f_is_limit_reached, g_is_limit_reached⟩ : ∃ f, Dw.Gd (L2.KOf KX) mg "is_limit_reached" (Dw.top 50) ["user", "name", "sessions"] f := by
  dsimp only [L2.KOf]
  refine' ⟨⟨_, _⟩, Dw.gd_ex KX G ?e1 (Dw.fd_ex ?e2 ?e3 ?e4 ?b)⟩
  (case e1 => k_is)
  (case e2 => k_is)
  (case e3 => k_is)
  (case e4 => k_is)
  (case b => exact fun us hl => match us, hl with | [_, _, _], _ => rfl)
 obtain ⟨f_check_accounting, g_check_accounting⟩ : ∃ f, Dw.Gd (L2.KOf KX) mg "check_accounting" (Dw.top 61) ["packet", "secret"] f := by
  dsimp only [L2.KOf]
  refine' ⟨⟨_, _⟩, Dw.gd_ex KX G ?e1 (Dw.fd_ex ?e2 ?e3 ?e4 ?b)⟩
  (case e1 => k_is)
  (case e2 => k_is)
  (case e3 => k_is)
  (case e4 => k_is)
  (case b => exact fun us hl => match us, hl with | [_, _], _ => rfl)
 obtain ⟨f_sessions_after, g_sessions_after⟩ : ∃ f, Dw.Gd (L2.KOf KX) mg "sessions_after" (Dw.top 62) ["packet", "client", "sessions"] f := by
  dsimp only [L2.KOf]
  refine' ⟨⟨_, _⟩, Dw.gd_ex KX G ?e1 (Dw.fd_ex ?e2 ?e3 ?e4 ?b)⟩
  (case e1 => k_is)
  (case e2 => k_is)
  (case e3 => k_is)
  (case e4 => k_is)
  (case b => exact fun us hl => match us, hl with | [_, _, _], _ => rfl)
 obtain ⟨f_read_status, g_read_status⟩ : ∃ f, Dw.Gd (L2.KOf KX) mg "read_status" (Dw.top 63) ["packet"] f := by
  dsimp only [L2.KOf]
  refine' ⟨⟨_, _⟩, Dw.gd_ex KX G ?e1 (Dw.fd_ex ?e2 ?e3 ?e4 ?b)⟩
  (case e1 => k_is)
  (case e2 => k_is)
  (case e3 => k_is)
  (case e4 => k_is)
  (case b => exact fun us hl => match us, hl with | [_], _ => rfl)
 obtain ⟨f_sessions_with, g_sessions_with⟩ : ∃ f, Dw.Gd (L2.KOf KX) mg "sessions_with" (Dw.top 64) ["sessions", "told"] f := by
  dsimp only [L2.KOf]
  refine' ⟨⟨_, _⟩, Dw.gd_ex KX G ?e1 (Dw.fd_ex ?e2 ?e3 ?e4 ?b)⟩
  (case e1 => k_is)
  (case e2 => k_is)
  (case e3 => k_is)
  (case e4 => k_is)
  (case b => exact fun us hl => match us, hl with | [_, _], _ => rfl)
 obtain ⟨c_Session, i_Session, f_session_is_same, f_session_line, k_Session, g_i_Session, g_f_session_is_same, g_f_session_line⟩ : ∃ c_Session i_Session f_session_is_same f_session_line, Dw.Kl (L2.KOf KX) mg "Session" c_Session i_Session ["client", "user_name", "session_name"] ∧ Dw.Fd (L2.KOf KX) "__init__" "Session.__init__" (L2.inClass (Dw.top 60) 0) ["self", "client", "user_name", "session_name"] i_Session ∧ Dw.Md (L2.KOf KX) c_Session "is_same" "Session.is_same" (L2.inClass (Dw.top 60) 1) ["self", "other"] f_session_is_same ∧ Dw.Md (L2.KOf KX) c_Session "line" "Session.line" (L2.inClass (Dw.top 60) 2) ["self"] f_session_line := by
  dsimp only [L2.KOf]
  refine' ⟨_, ⟨_, _⟩, ⟨_, _⟩, ⟨_, _⟩, Dw.kl_ex KX G ?c1 ?c2 ?c3 ?c4 ?c5 ?c6 ?c7 ?c8 ?c9 ?n, Dw.fd_ex ?i2 ?i3 ?i4 ?ib, Dw.md_ex ?m1a ?m1b (Dw.fd_ex ?m1c ?m1d ?m1e ?m1f), Dw.md_ex ?m2a ?m2b (Dw.fd_ex ?m2c ?m2d ?m2e ?m2f)⟩
  (case c1 => k_is)
  (case c2 => k_is)
  (case c3 => k_is)
  (case c4 => k_is)
  (case c5 => k_is)
  (case c6 => k_is)
  (case c7 => k_is)
  (case c8 => (dsimp only; k_is))
  (case c9 => k_is)
  (case n => (refine' Dw.no_cons ?q1 (Dw.no_cons ?q2 (Dw.no_cons ?q3 Dw.no_nil)); (case q1 => k_is); (case q2 => k_is); (case q3 => k_is)))
  (case i2 => k_is)
  (case i3 => k_is)
  (case i4 => k_is)
  (case ib => exact fun us hl => match us, hl with | [_, _, _, _], _ => rfl)
  (case m1a => k_is)
  (case m1b => (dsimp only; k_is))
  (case m1c => k_is)
  (case m1d => k_is)
  (case m1e => k_is)
  (case m1f => exact fun us hl => match us, hl with | [_, _], _ => rfl)
  (case m2a => k_is)
  (case m2b => (dsimp only; k_is))
  (case m2c => k_is)
  (case m2d => k_is)
  (case m2e => k_is)
  (case m2f => exact fun us hl => match us, hl with | [_], _ => rfl)
 obtain ⟨c_Answered, i_Answered, f_answered_fits, k_Answered, g_i_Answered, g_f_answered_fits⟩ : ∃ c_Answered i_Answered f_answered_fits, Dw.Kl (L2.KOf KX) mg "Answered" c_Answered i_Answered ["client", "number", "authenticator", "now", "given"] ∧ Dw.Fd (L2.KOf KX) "__init__" "Answered.__init__" (L2.inClass (Dw.top 71) 0) ["self", "client", "packet", "now", "given"] i_Answered ∧ Dw.Md (L2.KOf KX) c_Answered "fits" "Answered.fits" (L2.inClass (Dw.top 71) 1) ["self", "client", "packet", "now"] f_answered_fits := by
  dsimp only [L2.KOf]
  refine' ⟨_, ⟨_, _⟩, ⟨_, _⟩, Dw.kl_ex KX G ?c1 ?c2 ?c3 ?c4 ?c5 ?c6 ?c7 ?c8 ?c9 ?n, Dw.fd_ex ?i2 ?i3 ?i4 ?ib, Dw.md_ex ?m1a ?m1b (Dw.fd_ex ?m1c ?m1d ?m1e ?m1f)⟩
  (case c1 => k_is)
  (case c2 => k_is)
  (case c3 => k_is)
  (case c4 => k_is)
  (case c5 => k_is)
  (case c6 => k_is)
  (case c7 => k_is)
  (case c8 => (dsimp only; k_is))
  (case c9 => k_is)
  (case n => (refine' Dw.no_cons ?q1 (Dw.no_cons ?q2 (Dw.no_cons ?q3 (Dw.no_cons ?q4 (Dw.no_cons ?q5 Dw.no_nil)))); (case q1 => k_is); (case q2 => k_is); (case q3 => k_is); (case q4 => k_is); (case q5 => k_is)))
  (case i2 => k_is)
  (case i3 => k_is)
  (case i4 => k_is)
  (case ib => exact fun us hl => match us, hl with | [_, _, _, _, _], _ => rfl)
  (case m1a => k_is)
  (case m1b => (dsimp only; k_is))
  (case m1c => k_is)
  (case m1d => k_is)
  (case m1e => k_is)
  (case m1f => exact fun us hl => match us, hl with | [_, _, _, _], _ => rfl)
 obtain ⟨c_Server, i_Server, f_server_answer, f_server_account, k_Server, g_i_Server, g_f_server_answer, g_f_server_account⟩ : ∃ c_Server i_Server f_server_answer f_server_account, Dw.Kl (L2.KOf KX) mg "Server" c_Server i_Server ["settings", "sessions", "answered"] ∧ Dw.Fd (L2.KOf KX) "__init__" "Server.__init__" (L2.inClass (Dw.top 72) 0) ["self", "settings"] i_Server ∧ Dw.Md (L2.KOf KX) c_Server "answer" "Server.answer" (L2.inClass (Dw.top 72) 1) ["self", "client", "now", "data"] f_server_answer ∧ Dw.Md (L2.KOf KX) c_Server "account" "Server.account" (L2.inClass (Dw.top 72) 2) ["self", "client", "packet", "secret"] f_server_account := by
  dsimp only [L2.KOf]
  refine' ⟨_, ⟨_, _⟩, ⟨_, _⟩, ⟨_, _⟩, Dw.kl_ex KX G ?c1 ?c2 ?c3 ?c4 ?c5 ?c6 ?c7 ?c8 ?c9 ?n, Dw.fd_ex ?i2 ?i3 ?i4 ?ib, Dw.md_ex ?m1a ?m1b (Dw.fd_ex ?m1c ?m1d ?m1e ?m1f), Dw.md_ex ?m2a ?m2b (Dw.fd_ex ?m2c ?m2d ?m2e ?m2f)⟩
  (case c1 => k_is)
  (case c2 => k_is)
  (case c3 => k_is)
  (case c4 => k_is)
  (case c5 => k_is)
  (case c6 => k_is)
  (case c7 => k_is)
  (case c8 => (dsimp only; k_is))
  (case c9 => k_is)
  (case n => (refine' Dw.no_cons ?q1 (Dw.no_cons ?q2 (Dw.no_cons ?q3 Dw.no_nil)); (case q1 => k_is); (case q2 => k_is); (case q3 => k_is)))
  (case i2 => k_is)
  (case i3 => k_is)
  (case i4 => k_is)
  (case ib => exact fun us hl => match us, hl with | [_, _], _ => rfl)
  (case m1a => k_is)
  (case m1b => (dsimp only; k_is))
  (case m1c => k_is)
  (case m1d => k_is)
  (case m1e => k_is)
  (case m1f => exact fun us hl => match us, hl with | [_, _, _, _], _ => rfl)
  (case m2a => k_is)
  (case m2b => (dsimp only; k_is))
  (case m2c => k_is)
  (case m2d => k_is)
  (case m2e => k_is)
  (case m2f => exact fun us hl => match us, hl with | [_, _, _, _], _ => rfl)
 obtain ⟨f_read_settings, g_read_settings⟩ : ∃ f, Dw.Gd (L2.KOf KX) mg "read_settings" (Dw.top 95) ["text"] f := by
  dsimp only [L2.KOf]
  refine' ⟨⟨_, _⟩, Dw.gd_ex KX G ?e1 (Dw.fd_ex ?e2 ?e3 ?e4 ?b)⟩
  (case e1 => k_is)
  (case e2 => k_is)
  (case e3 => k_is)
  (case e4 => k_is)
  (case b => exact fun us hl => match us, hl with | [_], _ => rfl)
 obtain ⟨f_read_words, g_read_words⟩ : ∃ f, Dw.Gd (L2.KOf KX) mg "read_words" (Dw.top 96) ["line"] f := by
  dsimp only [L2.KOf]
  refine' ⟨⟨_, _⟩, Dw.gd_ex KX G ?e1 (Dw.fd_ex ?e2 ?e3 ?e4 ?b)⟩
  (case e1 => k_is)
  (case e2 => k_is)
  (case e3 => k_is)
  (case e4 => k_is)
  (case b => exact fun us hl => match us, hl with | [_], _ => rfl)
 obtain ⟨f_take_words, g_take_words⟩ : ∃ f, Dw.Gd (L2.KOf KX) mg "take_words" (Dw.top 97) ["settings", "words"] f := by
  dsimp only [L2.KOf]
  refine' ⟨⟨_, _⟩, Dw.gd_ex KX G ?e1 (Dw.fd_ex ?e2 ?e3 ?e4 ?b)⟩
  (case e1 => k_is)
  (case e2 => k_is)
  (case e3 => k_is)
  (case e4 => k_is)
  (case b => exact fun us hl => match us, hl with | [_, _], _ => rfl)
 obtain ⟨f_take_client, g_take_client⟩ : ∃ f, Dw.Gd (L2.KOf KX) mg "take_client" (Dw.top 98) ["settings", "words"] f := by
  dsimp only [L2.KOf]
  refine' ⟨⟨_, _⟩, Dw.gd_ex KX G ?e1 (Dw.fd_ex ?e2 ?e3 ?e4 ?b)⟩
  (case e1 => k_is)
  (case e2 => k_is)
  (case e3 => k_is)
  (case e4 => k_is)
  (case b => exact fun us hl => match us, hl with | [_, _], _ => rfl)
 obtain ⟨f_take_user, g_take_user⟩ : ∃ f, Dw.Gd (L2.KOf KX) mg "take_user" (Dw.top 99) ["settings", "words"] f := by
  dsimp only [L2.KOf]
  refine' ⟨⟨_, _⟩, Dw.gd_ex KX G ?e1 (Dw.fd_ex ?e2 ?e3 ?e4 ?b)⟩
  (case e1 => k_is)
  (case e2 => k_is)
  (case e3 => k_is)
  (case e4 => k_is)
  (case b => exact fun us hl => match us, hl with | [_, _], _ => rfl)
 obtain ⟨f_take_user_word, g_take_user_word⟩ : ∃ f, Dw.Gd (L2.KOf KX) mg "take_user_word" (Dw.top 100) ["user", "word"] f := by
  dsimp only [L2.KOf]
  refine' ⟨⟨_, _⟩, Dw.gd_ex KX G ?e1 (Dw.fd_ex ?e2 ?e3 ?e4 ?b)⟩
  (case e1 => k_is)
  (case e2 => k_is)
  (case e3 => k_is)
  (case e4 => k_is)
  (case b => exact fun us hl => match us, hl with | [_, _], _ => rfl)
 obtain ⟨f_read_told, g_read_told⟩ : ∃ f, Dw.Gd (L2.KOf KX) mg "read_told" (Dw.top 101) ["label", "value"] f := by
  dsimp only [L2.KOf]
  refine' ⟨⟨_, _⟩, Dw.gd_ex KX G ?e1 (Dw.fd_ex ?e2 ?e3 ?e4 ?b)⟩
  (case e1 => k_is)
  (case e2 => k_is)
  (case e3 => k_is)
  (case e4 => k_is)
  (case b => exact fun us hl => match us, hl with | [_, _], _ => rfl)
 obtain ⟨f_read_number, g_read_number⟩ : ∃ f, Dw.Gd (L2.KOf KX) mg "read_number" (Dw.top 102) ["word", "most"] f := by
  dsimp only [L2.KOf]
  refine' ⟨⟨_, _⟩, Dw.gd_ex KX G ?e1 (Dw.fd_ex ?e2 ?e3 ?e4 ?b)⟩
  (case e1 => k_is)
  (case e2 => k_is)
  (case e3 => k_is)
  (case e4 => k_is)
  (case b => exact fun us hl => match us, hl with | [_, _], _ => rfl)
 obtain ⟨f_four_bytes, g_four_bytes⟩ : ∃ f, Dw.Gd (L2.KOf KX) mg "four_bytes" (Dw.top 103) ["number"] f := by
  dsimp only [L2.KOf]
  refine' ⟨⟨_, _⟩, Dw.gd_ex KX G ?e1 (Dw.fd_ex ?e2 ?e3 ?e4 ?b)⟩
  (case e1 => k_is)
  (case e2 => k_is)
  (case e3 => k_is)
  (case e4 => k_is)
  (case b => exact fun us hl => match us, hl with | [_], _ => rfl)
 obtain ⟨c_WrongWords, k_WrongWords⟩ : ∃ C, L2.ExcC (L2.KOf KX) mg "WrongWords" C := by
  dsimp only [L2.KOf]
  refine' ⟨_, Dw.exc_ex KX G ?e1 ?e2 ?e3⟩
  (case e1 => k_is)
  (case e2 => kernel_rfl)
  (case e3 => k_is)
 obtain ⟨c_WrongLine, i_WrongLine, k_WrongLine⟩ : ∃ C fI, L2.ExcI (L2.KOf KX) mg "WrongLine" "line_number" "line_number" "WrongLine.__init__" C fI := by
  dsimp only [L2.KOf]
  refine' ⟨_, _, Dw.exci_ex KX G ?e1 ?e2 ?e3 ?e4 ?e5 ?e6 ?e7 ?e8 ?e9 ?e10 Dw.tl_line ?d1 ?d2 ?s1 ?d3 ?s2 ?s3 ?s4 ?s5 ?s6 ?d4 ?d5⟩
  (case e1 => k_is)
  (case e2 => k_is)
  (case e3 => k_is)
  (case e4 => kernel_rfl)
  (case e5 => k_is)
  (case e6 => k_is)
  (case e7 => k_is)
  (case e8 => k_is)
  (case e9 => k_is)
  (case e10 => k_is)
  (case d1 => k_is)
  (case d2 => k_is)
  (case d3 => exact fun u v => rfl)
  (case s1 => exact rfl)
  (case s2 => exact rfl)
  (case s3 => exact rfl)
  (case s4 => exact rfl)
  (case s5 => exact rfl)
  (case s6 => exact rfl)
  (case d4 => decide +kernel)
  (case d5 => decide +kernel)
 obtain ⟨c_User, i_User, k_User, g_i_User⟩ : ∃ c_User i_User, Dw.Kl (L2.KOf KX) mg "User" c_User i_User ["password", "limit", "told"] ∧ Dw.Fd (L2.KOf KX) "__init__" "User.__init__" (L2.inClass (Dw.top 93) 0) ["self", "password"] i_User := by
  dsimp only [L2.KOf]
  refine' ⟨_, ⟨_, _⟩, Dw.kl_ex KX G ?c1 ?c2 ?c3 ?c4 ?c5 ?c6 ?c7 ?c8 ?c9 ?n, Dw.fd_ex ?i2 ?i3 ?i4 ?ib⟩
  (case c1 => k_is)
  (case c2 => k_is)
  (case c3 => k_is)
  (case c4 => k_is)
  (case c5 => k_is)
  (case c6 => k_is)
  (case c7 => k_is)
  (case c8 => (dsimp only; k_is))
  (case c9 => k_is)
  (case n => (refine' Dw.no_cons ?q1 (Dw.no_cons ?q2 (Dw.no_cons ?q3 Dw.no_nil)); (case q1 => k_is); (case q2 => k_is); (case q3 => k_is)))
  (case i2 => k_is)
  (case i3 => k_is)
  (case i4 => k_is)
  (case ib => exact fun us hl => match us, hl with | [_, _], _ => rfl)
 obtain ⟨c_Settings, i_Settings, k_Settings, g_i_Settings⟩ : ∃ c_Settings i_Settings, Dw.Kl (L2.KOf KX) mg "Settings" c_Settings i_Settings ["secrets", "users"] ∧ Dw.Fd (L2.KOf KX) "__init__" "Settings.__init__" (L2.inClass (Dw.top 94) 0) ["self"] i_Settings := by
  dsimp only [L2.KOf]
  refine' ⟨_, ⟨_, _⟩, Dw.kl_ex KX G ?c1 ?c2 ?c3 ?c4 ?c5 ?c6 ?c7 ?c8 ?c9 ?n, Dw.fd_ex ?i2 ?i3 ?i4 ?ib⟩
  (case c1 => k_is)
  (case c2 => k_is)
  (case c3 => k_is)
  (case c4 => k_is)
  (case c5 => k_is)
  (case c6 => k_is)
  (case c7 => k_is)
  (case c8 => (dsimp only; k_is))
  (case c9 => k_is)
  (case n => (refine' Dw.no_cons ?q1 (Dw.no_cons ?q2 Dw.no_nil); (case q1 => k_is); (case q2 => k_is)))
  (case i2 => k_is)
  (case i3 => k_is)
  (case i4 => k_is)
  (case ib => exact fun us hl => match us, hl with | [_], _ => rfl)
 obtain ⟨a_NW, a_NW0, a_NW1, a_NW2, e_NW, t_NW, t_NW0, t_NW1, t_NW2⟩ : ∃ a b0 b1 b2, mg "NUMBER_WORDS" = some (.ref a) ∧ Dw.TupIn (L2.KOf KX) a [.ref b0, .ref b1, .ref b2] ∧ Dw.TupIn (L2.KOf KX) b0 [.str "service", .int 6] ∧ Dw.TupIn (L2.KOf KX) b1 [.str "timeout", .int 27] ∧ Dw.TupIn (L2.KOf KX) b2 [.str "idle", .int 28] := by
  dsimp only [L2.KOf]
  refine' ⟨_, _, _, _, PySem.W.mg_of KX G ?e1, Dw.tup_ex ?e2 ?z ?r, Dw.tup_ex ?x1 ?x2 ?x3, Dw.tup_ex ?y1 ?y2 ?y3, Dw.tup_ex ?w1 ?w2 ?w3⟩
  (case e1 => k_is)
  (case e2 => k_is)
  (case z => decide)
  (case r => exact .cons rfl (.cons rfl (.cons rfl .nil)))
  (case x1 => k_is)
  (case x2 => decide)
  (case x3 => first | exact .cons ⟨_, rfl⟩ (.cons ⟨_, rfl⟩ .nil) | exact .cons ⟨_, congrArg (fun s => PySem.Value.str s _) (by decide +kernel)⟩ (.cons ⟨_, rfl⟩ .nil))
  (case y1 => k_is)
  (case y2 => decide)
  (case y3 => first | exact .cons ⟨_, rfl⟩ (.cons ⟨_, rfl⟩ .nil) | exact .cons ⟨_, congrArg (fun s => PySem.Value.str s _) (by decide +kernel)⟩ (.cons ⟨_, rfl⟩ .nil))
  (case w1 => k_is)
  (case w2 => decide)
  (case w3 => first | exact .cons ⟨_, rfl⟩ (.cons ⟨_, rfl⟩ .nil) | exact .cons ⟨_, congrArg (fun s => PySem.Value.str s _) (by decide +kernel)⟩ (.cons ⟨_, rfl⟩ .nil))
 obtain ⟨f_answer_call, g_answer_call⟩ : ∃ f, Dw.Gd (L2.KOf KX) mg "answer_call" (Dw.top 117) ["porter", "reader"] f := by
  dsimp only [L2.KOf]
  refine' ⟨⟨_, _⟩, Dw.gd_ex KX G ?e1 (Dw.fd_ex ?e2 ?e3 ?e4 ?b)⟩
  (case e1 => k_is)
  (case e2 => k_is)
  (case e3 => k_is)
  (case e4 => k_is)
  (case b => exact fun us hl => match us, hl with | [_, _], _ => rfl)
 obtain ⟨f_answers, g_answers⟩ : ∃ f, Dw.Gd (L2.KOf KX) mg "answers" (Dw.top 118) ["calls"] f := by
  dsimp only [L2.KOf]
  refine' ⟨⟨_, _⟩, Dw.gd_ex KX G ?e1 (Dw.fd_ex ?e2 ?e3 ?e4 ?b)⟩
  (case e1 => k_is)
  (case e2 => k_is)
  (case e3 => k_is)
  (case e4 => k_is)
  (case b => exact fun us hl => match us, hl with | [_], _ => rfl)
 obtain ⟨c_Reader, i_Reader, f_reader_has_more, f_reader_take_number, f_reader_take_row, k_Reader, g_i_Reader, g_f_reader_has_more, g_f_reader_take_number, g_f_reader_take_row⟩ : ∃ c_Reader i_Reader f_reader_has_more f_reader_take_number f_reader_take_row, Dw.Kl (L2.KOf KX) mg "Reader" c_Reader i_Reader ["numbers", "place"] ∧ Dw.Fd (L2.KOf KX) "__init__" "Reader.__init__" (L2.inClass (Dw.top 115) 0) ["self", "numbers"] i_Reader ∧ Dw.Md (L2.KOf KX) c_Reader "has_more" "Reader.has_more" (L2.inClass (Dw.top 115) 1) ["self"] f_reader_has_more ∧ Dw.Md (L2.KOf KX) c_Reader "take_number" "Reader.take_number" (L2.inClass (Dw.top 115) 2) ["self"] f_reader_take_number ∧ Dw.Md (L2.KOf KX) c_Reader "take_row" "Reader.take_row" (L2.inClass (Dw.top 115) 3) ["self"] f_reader_take_row := by
  dsimp only [L2.KOf]
  refine' ⟨_, ⟨_, _⟩, ⟨_, _⟩, ⟨_, _⟩, ⟨_, _⟩, Dw.kl_ex KX G ?c1 ?c2 ?c3 ?c4 ?c5 ?c6 ?c7 ?c8 ?c9 ?n, Dw.fd_ex ?i2 ?i3 ?i4 ?ib, Dw.md_ex ?m1a ?m1b (Dw.fd_ex ?m1c ?m1d ?m1e ?m1f), Dw.md_ex ?m2a ?m2b (Dw.fd_ex ?m2c ?m2d ?m2e ?m2f), Dw.md_ex ?m3a ?m3b (Dw.fd_ex ?m3c ?m3d ?m3e ?m3f)⟩
  (case c1 => k_is)
  (case c2 => k_is)
  (case c3 => k_is)
  (case c4 => k_is)
  (case c5 => k_is)
  (case c6 => k_is)
  (case c7 => k_is)
  (case c8 => (dsimp only; k_is))
  (case c9 => k_is)
  (case n => (refine' Dw.no_cons ?q1 (Dw.no_cons ?q2 Dw.no_nil); (case q1 => k_is); (case q2 => k_is)))
  (case i2 => k_is)
  (case i3 => k_is)
  (case i4 => k_is)
  (case ib => exact fun us hl => match us, hl with | [_, _], _ => rfl)
  (case m1a => k_is)
  (case m1b => (dsimp only; k_is))
  (case m1c => k_is)
  (case m1d => k_is)
  (case m1e => k_is)
  (case m1f => exact fun us hl => match us, hl with | [_], _ => rfl)
  (case m2a => k_is)
  (case m2b => (dsimp only; k_is))
  (case m2c => k_is)
  (case m2d => k_is)
  (case m2e => k_is)
  (case m2f => exact fun us hl => match us, hl with | [_], _ => rfl)
  (case m3a => k_is)
  (case m3b => (dsimp only; k_is))
  (case m3c => k_is)
  (case m3d => k_is)
  (case m3e => k_is)
  (case m3f => exact fun us hl => match us, hl with | [_], _ => rfl)
 obtain ⟨c_Porter, i_Porter, f_porter_begin, f_porter_answer_packet, f_porter_list_sessions, k_Porter, g_i_Porter, g_f_porter_begin, g_f_porter_answer_packet, g_f_porter_list_sessions⟩ : ∃ c_Porter i_Porter f_porter_begin f_porter_answer_packet f_porter_list_sessions, Dw.Kl (L2.KOf KX) mg "Porter" c_Porter i_Porter ["server"] ∧ Dw.Fd (L2.KOf KX) "__init__" "Porter.__init__" (L2.inClass (Dw.top 116) 0) ["self"] i_Porter ∧ Dw.Md (L2.KOf KX) c_Porter "begin" "Porter.begin" (L2.inClass (Dw.top 116) 1) ["self", "text"] f_porter_begin ∧ Dw.Md (L2.KOf KX) c_Porter "answer_packet" "Porter.answer_packet" (L2.inClass (Dw.top 116) 2) ["self", "client", "now", "most", "data"] f_porter_answer_packet ∧ Dw.Md (L2.KOf KX) c_Porter "list_sessions" "Porter.list_sessions" (L2.inClass (Dw.top 116) 3) ["self", "most"] f_porter_list_sessions := by
  dsimp only [L2.KOf]
  refine' ⟨_, ⟨_, _⟩, ⟨_, _⟩, ⟨_, _⟩, ⟨_, _⟩, Dw.kl_ex KX G ?c1 ?c2 ?c3 ?c4 ?c5 ?c6 ?c7 ?c8 ?c9 ?n, Dw.fd_ex ?i2 ?i3 ?i4 ?ib, Dw.md_ex ?m1a ?m1b (Dw.fd_ex ?m1c ?m1d ?m1e ?m1f), Dw.md_ex ?m2a ?m2b (Dw.fd_ex ?m2c ?m2d ?m2e ?m2f), Dw.md_ex ?m3a ?m3b (Dw.fd_ex ?m3c ?m3d ?m3e ?m3f)⟩
  (case c1 => k_is)
  (case c2 => k_is)
  (case c3 => k_is)
  (case c4 => k_is)
  (case c5 => k_is)
  (case c6 => k_is)
  (case c7 => k_is)
  (case c8 => (dsimp only; k_is))
  (case c9 => k_is)
  (case n => (refine' Dw.no_cons ?q1 Dw.no_nil; (case q1 => k_is)))
  (case i2 => k_is)
  (case i3 => k_is)
  (case i4 => k_is)
  (case ib => exact fun us hl => match us, hl with | [_], _ => rfl)
  (case m1a => k_is)
  (case m1b => (dsimp only; k_is))
  (case m1c => k_is)
  (case m1d => k_is)
  (case m1e => k_is)
  (case m1f => exact fun us hl => match us, hl with | [_, _], _ => rfl)
  (case m2a => k_is)
  (case m2b => (dsimp only; k_is))
  (case m2c => k_is)
  (case m2d => k_is)
  (case m2e => k_is)
  (case m2f => exact fun us hl => match us, hl with | [_, _, _, _, _], _ => rfl)
  (case m3a => k_is)
  (case m3b => (dsimp only; k_is))
  (case m3c => k_is)
  (case m3d => k_is)
  (case m3e => k_is)
  (case m3f => exact fun us hl => match us, hl with | [_, _], _ => rfl)
 have g_ints : ∀ x n, (x, n) ∈ Dw.consts → ∃ u, mg x = some (.int n u) := by
  refine' Dw.int_cons (K := L2.KOf KX) KX G ?e1 ?_
  (case e1 => (dsimp only [L2.KOf]; k_is))
  refine' Dw.int_cons (K := L2.KOf KX) KX G ?e1 ?_
  (case e1 => (dsimp only [L2.KOf]; k_is))
  refine' Dw.int_cons (K := L2.KOf KX) KX G ?e1 ?_
  (case e1 => (dsimp only [L2.KOf]; k_is))
  refine' Dw.int_cons (K := L2.KOf KX) KX G ?e1 ?_
  (case e1 => (dsimp only [L2.KOf]; k_is))
  refine' Dw.int_cons (K := L2.KOf KX) KX G ?e1 ?_
  (case e1 => (dsimp only [L2.KOf]; k_is))
  refine' Dw.int_cons (K := L2.KOf KX) KX G ?e1 ?_
  (case e1 => (dsimp only [L2.KOf]; k_is))
  refine' Dw.int_cons (K := L2.KOf KX) KX G ?e1 ?_
  (case e1 => (dsimp only [L2.KOf]; k_is))
  refine' Dw.int_cons (K := L2.KOf KX) KX G ?e1 ?_
  (case e1 => (dsimp only [L2.KOf]; k_is))
  refine' Dw.int_cons (K := L2.KOf KX) KX G ?e1 ?_
  (case e1 => (dsimp only [L2.KOf]; k_is))
  refine' Dw.int_cons (K := L2.KOf KX) KX G ?e1 ?_
  (case e1 => (dsimp only [L2.KOf]; k_is))
  refine' Dw.int_cons (K := L2.KOf KX) KX G ?e1 ?_
  (case e1 => (dsimp only [L2.KOf]; k_is))
  refine' Dw.int_cons (K := L2.KOf KX) KX G ?e1 ?_
  (case e1 => (dsimp only [L2.KOf]; k_is))
  refine' Dw.int_cons (K := L2.KOf KX) KX G ?e1 ?_
  (case e1 => (dsimp only [L2.KOf]; k_is))
  refine' Dw.int_cons (K := L2.KOf KX) KX G ?e1 ?_
  (case e1 => (dsimp only [L2.KOf]; k_is))
  refine' Dw.int_cons (K := L2.KOf KX) KX G ?e1 ?_
  (case e1 => (dsimp only [L2.KOf]; k_is))
  refine' Dw.int_cons (K := L2.KOf KX) KX G ?e1 ?_
  (case e1 => (dsimp only [L2.KOf]; k_is))
  refine' Dw.int_cons (K := L2.KOf KX) KX G ?e1 ?_
  (case e1 => (dsimp only [L2.KOf]; k_is))
  refine' Dw.int_cons (K := L2.KOf KX) KX G ?e1 ?_
  (case e1 => (dsimp only [L2.KOf]; k_is))
  refine' Dw.int_cons (K := L2.KOf KX) KX G ?e1 ?_
  (case e1 => (dsimp only [L2.KOf]; k_is))
  refine' Dw.int_cons (K := L2.KOf KX) KX G ?e1 ?_
  (case e1 => (dsimp only [L2.KOf]; k_is))
  refine' Dw.int_cons (K := L2.KOf KX) KX G ?e1 ?_
  (case e1 => (dsimp only [L2.KOf]; k_is))
  refine' Dw.int_cons (K := L2.KOf KX) KX G ?e1 ?_
  (case e1 => (dsimp only [L2.KOf]; k_is))
  refine' Dw.int_cons (K := L2.KOf KX) KX G ?e1 ?_
  (case e1 => (dsimp only [L2.KOf]; k_is))
  refine' Dw.int_cons (K := L2.KOf KX) KX G ?e1 ?_
  (case e1 => (dsimp only [L2.KOf]; k_is))
  refine' Dw.int_cons (K := L2.KOf KX) KX G ?e1 ?_
  (case e1 => (dsimp only [L2.KOf]; k_is))
  refine' Dw.int_cons (K := L2.KOf KX) KX G ?e1 ?_
  (case e1 => (dsimp only [L2.KOf]; k_is))
  refine' Dw.int_cons (K := L2.KOf KX) KX G ?e1 ?_
  (case e1 => (dsimp only [L2.KOf]; k_is))
  refine' Dw.int_cons (K := L2.KOf KX) KX G ?e1 ?_
  (case e1 => (dsimp only [L2.KOf]; k_is))
  refine' Dw.int_cons (K := L2.KOf KX) KX G ?e1 ?_
  (case e1 => (dsimp only [L2.KOf]; k_is))
  refine' Dw.int_cons (K := L2.KOf KX) KX G ?e1 ?_
  (case e1 => (dsimp only [L2.KOf]; k_is))
  refine' Dw.int_cons (K := L2.KOf KX) KX G ?e1 ?_
  (case e1 => (dsimp only [L2.KOf]; k_is))
  refine' Dw.int_cons (K := L2.KOf KX) KX G ?e1 ?_
  (case e1 => (dsimp only [L2.KOf]; k_is))
  refine' Dw.int_cons (K := L2.KOf KX) KX G ?e1 ?_
  (case e1 => (dsimp only [L2.KOf]; k_is))
  refine' Dw.int_cons (K := L2.KOf KX) KX G ?e1 ?_
  (case e1 => (dsimp only [L2.KOf]; k_is))
  refine' Dw.int_cons (K := L2.KOf KX) KX G ?e1 ?_
  (case e1 => (dsimp only [L2.KOf]; k_is))
  refine' Dw.int_cons (K := L2.KOf KX) KX G ?e1 ?_
  (case e1 => (dsimp only [L2.KOf]; k_is))
  refine' Dw.int_cons (K := L2.KOf KX) KX G ?e1 ?_
  (case e1 => (dsimp only [L2.KOf]; k_is))
  refine' Dw.int_cons (K := L2.KOf KX) KX G ?e1 ?_
  (case e1 => (dsimp only [L2.KOf]; k_is))
  refine' Dw.int_cons (K := L2.KOf KX) KX G ?e1 ?_
  (case e1 => (dsimp only [L2.KOf]; k_is))
  refine' Dw.int_cons (K := L2.KOf KX) KX G ?e1 ?_
  (case e1 => (dsimp only [L2.KOf]; k_is))
  refine' Dw.int_cons (K := L2.KOf KX) KX G ?e1 ?_
  (case e1 => (dsimp only [L2.KOf]; k_is))
  refine' Dw.int_cons (K := L2.KOf KX) KX G ?e1 ?_
  (case e1 => (dsimp only [L2.KOf]; k_is))
  refine' Dw.int_cons (K := L2.KOf KX) KX G ?e1 ?_
  (case e1 => (dsimp only [L2.KOf]; k_is))
  refine' Dw.int_cons (K := L2.KOf KX) KX G ?e1 ?_
  (case e1 => (dsimp only [L2.KOf]; k_is))
  refine' Dw.int_cons (K := L2.KOf KX) KX G ?e1 ?_
  (case e1 => (dsimp only [L2.KOf]; k_is))
  refine' Dw.int_cons (K := L2.KOf KX) KX G ?e1 ?_
  (case e1 => (dsimp only [L2.KOf]; k_is))
  refine' Dw.int_cons (K := L2.KOf KX) KX G ?e1 ?_
  (case e1 => (dsimp only [L2.KOf]; k_is))
  refine' Dw.int_cons (K := L2.KOf KX) KX G ?e1 ?_
  (case e1 => (dsimp only [L2.KOf]; k_is))
  refine' Dw.int_cons (K := L2.KOf KX) KX G ?e1 ?_
  (case e1 => (dsimp only [L2.KOf]; k_is))
  refine' Dw.int_cons (K := L2.KOf KX) KX G ?e1 ?_
  (case e1 => (dsimp only [L2.KOf]; k_is))
  refine' Dw.int_cons (K := L2.KOf KX) KX G ?e1 ?_
  (case e1 => (dsimp only [L2.KOf]; k_is))
  refine' Dw.int_cons (K := L2.KOf KX) KX G ?e1 ?_
  (case e1 => (dsimp only [L2.KOf]; k_is))
  refine' Dw.int_cons (K := L2.KOf KX) KX G ?e1 ?_
  (case e1 => (dsimp only [L2.KOf]; k_is))
  refine' Dw.int_cons (K := L2.KOf KX) KX G ?e1 ?_
  (case e1 => (dsimp only [L2.KOf]; k_is))
  refine' Dw.int_cons (K := L2.KOf KX) KX G ?e1 ?_
  (case e1 => (dsimp only [L2.KOf]; k_is))
  refine' Dw.int_cons (K := L2.KOf KX) KX G ?e1 ?_
  (case e1 => (dsimp only [L2.KOf]; k_is))
  refine' Dw.int_cons (K := L2.KOf KX) KX G ?e1 ?_
  (case e1 => (dsimp only [L2.KOf]; k_is))
  refine' Dw.int_cons (K := L2.KOf KX) KX G ?e1 ?_
  (case e1 => (dsimp only [L2.KOf]; k_is))
  exact Dw.int_nil
 have g_blts : ∀ x, x ∈ Dw.bltns → mg x = none := by
  refine' Dw.blt_cons (K := L2.KOf KX) KX G ?e1 ?_
  (case e1 => (dsimp only [L2.KOf]; k_is))
  refine' Dw.blt_cons (K := L2.KOf KX) KX G ?e1 ?_
  (case e1 => (dsimp only [L2.KOf]; k_is))
  refine' Dw.blt_cons (K := L2.KOf KX) KX G ?e1 ?_
  (case e1 => (dsimp only [L2.KOf]; k_is))
  refine' Dw.blt_cons (K := L2.KOf KX) KX G ?e1 ?_
  (case e1 => (dsimp only [L2.KOf]; k_is))
  refine' Dw.blt_cons (K := L2.KOf KX) KX G ?e1 ?_
  (case e1 => (dsimp only [L2.KOf]; k_is))
  refine' Dw.blt_cons (K := L2.KOf KX) KX G ?e1 ?_
  (case e1 => (dsimp only [L2.KOf]; k_is))
  refine' Dw.blt_cons (K := L2.KOf KX) KX G ?e1 ?_
  (case e1 => (dsimp only [L2.KOf]; k_is))
  refine' Dw.blt_cons (K := L2.KOf KX) KX G ?e1 ?_
  (case e1 => (dsimp only [L2.KOf]; k_is))
  refine' Dw.blt_cons (K := L2.KOf KX) KX G ?e1 ?_
  (case e1 => (dsimp only [L2.KOf]; k_is))
  refine' Dw.blt_cons (K := L2.KOf KX) KX G ?e1 ?_
  (case e1 => (dsimp only [L2.KOf]; k_is))
  refine' Dw.blt_cons (K := L2.KOf KX) KX G ?e1 ?_
  (case e1 => (dsimp only [L2.KOf]; k_is))
  exact Dw.blt_nil
 have T : Dw.Txt (L2.KOf KX) mg ⟨f_low_first, f_padded, f_words_of, f_stirred, f_md5, f_keyed_md5, a_START, a_SINES, a_TURNS, f_read_packet, f_read_attributes, f_attribute_bytes, f_with_zeros, f_check_proof, f_make_answer, c_NoAnswer, c_Attribute, i_Attribute, c_Packet, i_Packet, f_packet_all_of, f_packet_only, f_codes, f_hex_codes, f_parted, f_answer_access, f_is_password_right, f_read_hashed, f_read_challenge, f_read_password, f_is_limit_reached, f_check_accounting, f_sessions_after, f_read_status, f_sessions_with, c_Session, i_Session, f_session_is_same, f_session_line, c_Answered, i_Answered, f_answered_fits, c_Server, i_Server, f_server_answer, f_server_account, f_read_settings, f_read_words, f_take_words, f_take_client, f_take_user, f_take_user_word, f_read_told, f_read_number, f_four_bytes, c_WrongWords, c_WrongLine, ⟨i_WrongLine, f_answers.fd⟩, c_User, i_User, c_Settings, i_Settings, a_NW, a_NW0, a_NW1, a_NW2, f_answer_call, f_answers, c_Reader, i_Reader, f_reader_has_more, f_reader_take_number, f_reader_take_row, c_Porter, i_Porter, f_porter_begin, f_porter_answer_packet, f_porter_list_sessions⟩ := ⟨⟨g_low_first, g_padded, g_words_of, g_stirred, g_md5, g_keyed_md5, e_START, t_START, e_SINES, t_SINES, e_TURNS, t_TURNS⟩, ⟨g_read_packet, g_read_attributes, g_attribute_bytes, g_with_zeros, g_check_proof, g_make_answer, k_NoAnswer, k_Attribute, g_i_Attribute, k_Packet, g_i_Packet, g_f_packet_all_of, g_f_packet_only⟩, ⟨g_codes, g_hex_codes, g_parted, g_HEX_DIGITS⟩, ⟨g_answer_access, g_is_password_right, g_read_hashed, g_read_challenge, g_read_password, g_is_limit_reached⟩, ⟨g_check_accounting, g_sessions_after, g_read_status, g_sessions_with, k_Session, g_i_Session, g_f_session_is_same, g_f_session_line⟩, ⟨k_Answered, g_i_Answered, g_f_answered_fits, k_Server, g_i_Server, g_f_server_answer, g_f_server_account⟩, ⟨g_read_settings, g_read_words, g_take_words, g_take_client, g_take_user, g_take_user_word, g_read_told, g_read_number, g_four_bytes, k_WrongWords, k_WrongLine, k_User, g_i_User, k_Settings, g_i_Settings, e_NW, t_NW, t_NW0, t_NW1, t_NW2⟩, ⟨g_answer_call, g_answers, k_Reader, g_i_Reader, g_f_reader_has_more, g_f_reader_take_number, g_f_reader_take_row, k_Porter, g_i_Porter, g_f_porter_begin, g_f_porter_answer_packet, g_f_porter_list_sessions⟩, g_ints, g_blts⟩
 have e0 := hmg.symm.trans T.porter.answers.mg
 cases e0
 exact ⟨_, fun s u hK => T.porter.answers.bi s [u] hK rfl, fun base => Dw.ok_answers T⟩
