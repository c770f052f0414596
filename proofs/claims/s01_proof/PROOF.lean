import PyProof.Rows.All
import Wide.All
import OpenK.AllK
import Wide.FinOn
import Open.SpecLaws
import KE.OsHead
import KE.OsGo
import HandS.ForSpec
import HandS.Comp
import HandS.Iter
import HandS.Text
import HandS.Walk
import HandS.Steps
import PySem.Challenge.RW_lowestwins_s01_answers
set_option Elab.async false
set_option maxRecDepth 100000
set_option maxHeartbeats 2000000
namespace Cw
open Ql84

/-! ### stuffing -/
theorem st5 (l : Bool) (r : Bits) : stuffed 5 l r = (!l) :: stuffed 1 (!l) r := by
  cases r with
  | nil => rfl
  | cons b r => rfl
theorem st_lt {run : Nat} (h : run < 5) (l b : Bool) (r : Bits) : stuffed run l (b :: r) = b :: stuffed (if b = l then run + 1 else 1) b r := by
  show (if run = 5 then _ else _) = _
  rw [if_neg (by omega)]
theorem st_nil {run : Nat} (h : run < 5) (l : Bool) : stuffed run l [] = [] := by
  show (if run = 5 then _ else _) = _
  rw [if_neg (by omega)]
/-- one turn of an eager stuffing: what is put, then the run and the last bit -/
def eagerRun (run : Nat) (l b : Bool) : Nat := if b = l then run + 1 else 1
theorem st_turn {run : Nat} (h : run < 5) (l b : Bool) (r : Bits) :
    stuffed run l (b :: r) = if eagerRun run l b = 5 then b :: (!b) :: stuffed 1 (!b) r else b :: stuffed (eagerRun run l b) b r := by
  rw [st_lt h]
  unfold eagerRun
  by_cases e : (if b = l then run + 1 else 1) = 5
  · rw [if_pos e, e, st5]
  · rw [if_neg e]

/-! ### the frame's bits and their lengths -/
theorem bitsOf_length (n w : Nat) : (bitsOf n w).length = w := by simp [bitsOf]
theorem flat_length (l : List Nat) : (l.flatMap fun x => bitsOf x 8).length = 8 * l.length := by
  induction l with
  | nil => rfl
  | cons a l ih => simp [bitsOf_length, ih] <;> omega
theorem head_length (f : Frame) : (head f).length = 19 + 8 * f.data.length := by
  unfold head
  rw [List.length_cons, List.length_append, List.length_append, List.length_append, bitsOf_length, bitsOf_length, flat_length]
  show 11 + (3 + _) + 1 = _
  omega
theorem plain_length (f : Frame) : (plain f).length = 34 + 8 * f.data.length := by
  simp [plain, head_length, bitsOf_length] <;> omega

theorem numberOf_append (a b : Bits) : numberOf (a ++ b) = numberOf a * 2 ^ b.length + numberOf b := by
  unfold numberOf
  induction b generalizing a with
  | nil => simp
  | cons x b ih =>
    have e : a ++ x :: b = (a ++ [x]) ++ b := by simp
    rw [e, ih (a ++ [x])]
    have h1 : List.foldl (fun (n : Nat) (x : Bool) => 2 * n + x.toNat) 0 (a ++ [x]) = 2 * List.foldl (fun (n : Nat) (x : Bool) => 2 * n + x.toNat) 0 a + x.toNat := by
      rw [List.foldl_append]; rfl
    have h2 := ih [x]
    have h3 : List.foldl (fun (n : Nat) (x : Bool) => 2 * n + x.toNat) 0 ([x] ++ b) = List.foldl (fun (n : Nat) (x : Bool) => 2 * n + x.toNat) 0 (x :: b) := rfl
    have h4 : List.foldl (fun (n : Nat) (x : Bool) => 2 * n + x.toNat) 0 [x] = x.toNat := by simp
    rw [h3, h4] at h2
    rw [h1, h2, List.length_cons, Nat.pow_succ, Nat.add_mul, Nat.mul_comm (2 ^ b.length) 2, ← Nat.mul_assoc]
    rw [Nat.mul_comm 2, Nat.add_assoc]
theorem bitsOf_succ (n w : Nat) : bitsOf n (w + 1) = bitsOf (n / 2) w ++ [n.testBit 0] := by
  unfold bitsOf
  rw [List.range_succ, List.map_append]
  congr 1
  · apply List.map_congr_left
    intro i hi
    have hi := List.mem_range.mp hi
    have e : w + 1 - 1 - i = (w - 1 - i) + 1 := by omega
    rw [e, Nat.testBit_succ]
  · simp
theorem numberOf_bitsOf : ∀ (w n : Nat), n < 2 ^ w → numberOf (bitsOf n w) = n
  | 0, n, h => by
    have : n = 0 := by simp at h; omega
    subst this; rfl
  | w + 1, n, h => by
    rw [bitsOf_succ, numberOf_append, numberOf_bitsOf w (n / 2) (by rw [Nat.pow_succ] at h; omega)]
    have : numberOf [n.testBit 0] = n % 2 := by
      show 2 * 0 + (n.testBit 0).toNat = n % 2
      rw [Nat.testBit_zero]
      by_cases e : n % 2 = 1
      · simp [e]
      · have : n % 2 = 0 := by omega
        simp [this]
    rw [this]
    simp
    omega

/-! ### what a prefix of a frame's bits tells -/
theorem plain_form (f : Frame) : ∃ rest : Bits, plain f = (false :: bitsOf f.id 11) ++ ([false, false, false] ++ (bitsOf f.data.length 4 ++ rest)) :=
  ⟨(f.data.flatMap fun x => bitsOf x 8) ++ bitsOf (sum (head f)) 15, by
    show (false :: (bitsOf f.id 11 ++ ([false, false, false] ++ (bitsOf f.data.length 4 ++ _)))) ++ _ = _
    rw [List.cons_append, List.append_assoc, List.append_assoc, List.append_assoc, List.cons_append]
    rfl⟩
theorem plain_zeros (f : Frame) : ((plain f).drop 12).take 3 = [false, false, false] := by
  obtain ⟨rest, e⟩ := plain_form f
  rw [e, List.drop_append, List.drop_eq_nil_of_le (by simp [bitsOf_length])]
  simp [bitsOf_length]
theorem plain_count (f : Frame) (h : f.Ok) : numberOf (((plain f).drop 15).take 4) = f.data.length := by
  obtain ⟨rest, e⟩ := plain_form f
  have e2 : (plain f).drop 15 = bitsOf f.data.length 4 ++ rest := by
    rw [e]
    simp [List.drop_append, bitsOf_length]
  rw [e2, List.take_append, List.take_of_length_le (by rw [bitsOf_length]; omega), bitsOf_length]
  simp
  exact numberOf_bitsOf 4 _ (by have := h.2.1; omega)
theorem pre_cut {a b c : Bits} (e : a ++ b = c) {i n : Nat} (h : i + n ≤ a.length) : (a.drop i).take n = (c.drop i).take n := by
  rw [← e, List.drop_append_of_le_length (by omega), List.take_append_of_le_length (by rw [List.length_drop]; omega)]
theorem pre_any {a b c : Bits} (e : a ++ b = c) (i n : Nat) (h : ((c.drop i).take n).any id = false) : ((a.drop i).take n).any id = false := by
  rw [← e] at h
  rw [List.any_eq_false] at h ⊢
  intro x hx
  apply h x
  by_cases hi : i ≤ a.length
  · rw [List.drop_append_of_le_length hi, List.take_append]
    exact List.mem_append_left _ hx
  · rw [List.drop_eq_nil_of_le (by omega)] at hx
    simp at hx
theorem pre_odd {f : Frame} (h : f.Ok) {seen rest : Bits} (e : seen ++ rest = plain f) : odd seen = false := by
  unfold odd
  have h1 : ((seen.drop 12).take 3).any id = false := pre_any e 12 3 (by rw [plain_zeros]; rfl)
  rw [h1, Bool.false_or]
  by_cases hl : 19 ≤ seen.length
  · have h2 : numberOf ((seen.drop 15).take 4) = f.data.length := by rw [pre_cut e (by omega), plain_count f h]
    rw [h2]
    have := h.2.1
    simp [hl]
    omega
  · simp [hl]
theorem pre_full {f : Frame} (h : f.Ok) {seen rest : Bits} (e : seen ++ rest = plain f) : (19 ≤ seen.length ∧ seen.length = 34 + 8 * numberOf ((seen.drop 15).take 4)) ↔ rest = [] := by
  have hl : seen.length + rest.length = 34 + 8 * f.data.length := by rw [← plain_length, ← e, List.length_append]
  constructor
  · rintro ⟨a, b⟩
    rw [pre_cut e (by omega), plain_count f h] at b
    exact List.eq_nil_of_length_eq_zero (by omega)
  · intro r
    subst r
    simp at hl
    refine ⟨by omega, ?_⟩
    rw [pre_cut e (by omega), plain_count f h, hl]

/-! ### the sender hears its own bits: within the frame till the last of them, then the tail -/
/-- where the reading of a frame's own bits stands: the frame's bits heard, the last bit, the run, what is still to come of the stuffed bits -/
structure Own (f : Frame) (p : Phase) (todo : Bits) : Prop where
  is : (∃ seen last run rest, p = .body seen last run ∧ seen ++ rest = plain f ∧ 0 < seen.length ∧ 1 ≤ run ∧ run ≤ 5 ∧ (rest = [] → run = 5) ∧ todo = stuffed run last rest) ∨ (p = .tail 0 (plain f) ∧ todo = [])
theorem own_body {f : Frame} {p : Phase} {todo : Bits} (h : Own f p todo) {seen : Bits} {last : Bool} {run : Nat} (e : p = .body seen last run) : ∃ t r, todo = t :: r := by
  rcases h.is with ⟨seen', last', run', rest, e', hs, hp, h1, h5, hr, ht⟩ | ⟨e', _⟩
  · rw [e] at e'
    cases e'
    subst ht
    cases rest with
    | nil =>
      have := hr rfl
      subst this
      exact ⟨_, _, rfl⟩
    | cons b rest =>
      by_cases c : run = 5
      · subst c
        exact ⟨_, _, rfl⟩
      · exact ⟨_, _, st_lt (by omega) _ _ _⟩
  · rw [e] at e'
    cases e'
theorem more_at {f : Frame} (ok : f.Ok) {s : St} {seen rest : Bits} {last : Bool} {run : Nat} (e : seen ++ rest = plain f) (hp : 0 < seen.length) (h1 : 1 ≤ run) (h5 : run ≤ 5) :
    (s.more seen last run).2 = 0 ∧ Own f (s.more seen last run).1.phase (stuffed run last rest) ∧ (s.more seen last run).1 = { s with phase := (s.more seen last run).1.phase } := by
  unfold St.more
  rw [pre_odd ok e, if_neg (by decide)]
  by_cases c : 19 ≤ seen.length ∧ seen.length = 34 + 8 * numberOf ((seen.drop 15).take 4) ∧ run ≠ 5
  · rw [if_pos c]
    have hr : rest = [] := (pre_full ok e).mp ⟨c.1, c.2.1⟩
    subst hr
    rw [List.append_nil] at e
    subst e
    exact ⟨rfl, ⟨.inr ⟨rfl, st_nil (by omega) _⟩⟩, rfl⟩
  · rw [if_neg c]
    refine ⟨rfl, ⟨.inl ⟨seen, last, run, rest, rfl, e, hp, h1, h5, fun r => ?_, rfl⟩⟩, rfl⟩
    have := (pre_full ok e).mpr r
    by_cases q : run = 5
    · exact q
    · exact absurd ⟨this.1, this.2, q⟩ c
/-- one bit of its own: no error, and the reading stands one further -/
theorem own_read {f : Frame} (ok : f.Ok) {s : St} {seen : Bits} {last : Bool} {run : Nat} {t : Bool} {r : Bits} (h : Own f (.body seen last run) (t :: r)) :
    (s.read seen last run t).2 = 0 ∧ Own f (s.read seen last run t).1.phase r ∧ (s.read seen last run t).1 = { s with phase := (s.read seen last run t).1.phase } := by
  rcases h.is with ⟨seen', last', run', rest, e', hs, hp, h1, h5, hr, ht⟩ | ⟨e', _⟩
  · cases e'
    unfold St.read
    by_cases c : run = 5
    · subst c
      rw [st5] at ht
      obtain ⟨e1, e2⟩ := List.cons.inj ht
      subst e1
      rw [if_pos rfl, if_neg (by cases last <;> decide), e2]
      exact more_at ok hs hp (by decide) (by decide)
    · rw [if_neg c]
      cases rest with
      | nil => exact absurd (hr rfl) c
      | cons b rest =>
        rw [st_lt (by omega)] at ht
        obtain ⟨e1, e2⟩ := List.cons.inj ht
        subst e1
        rw [e2]
        refine more_at ok (by rw [List.append_assoc]; exact hs) (by simp) ?_ ?_
        · split <;> omega
        · split <;> omega
  · cases e'
/-- the first bit of a frame -/
theorem own_first (f : Frame) : Own f (.body [false] false 1) ((wire f).drop 1) := by
  obtain ⟨rest, e⟩ : ∃ rest, plain f = false :: rest := ⟨_, rfl⟩
  refine ⟨.inl ⟨[false], false, 1, rest, rfl, e.symm, by decide, by decide, by decide, fun r => ?_, ?_⟩⟩
  · have h := plain_length f
    rw [e, r] at h
    simp at h
    omega
  · unfold wire
    rw [e, st_lt (by decide)]
    rfl
theorem wire_first (f : Frame) : ∃ r, wire f = false :: r := by
  unfold wire
  exact ⟨_, st_lt (by decide) _ _ _⟩
end Cw

namespace Cw
open Ql84

/-- how many bytes the bits heard tell (where they are there) -/
def told4 (seen : Bits) : Nat := numberOf ((seen.drop 15).take 4)
/-- bits heard within a frame: not odd, and not all of them (but for a stuffed one) -/
structure BodyOk (seen : Bits) (run : Nat) : Prop where
  pos : 0 < seen.length
  odd : odd seen = false
  lo : 1 ≤ run
  hi : run ≤ 5
  not_all : ¬ (19 ≤ seen.length ∧ seen.length = 34 + 8 * told4 seen ∧ run ≠ 5)
  most : 19 ≤ seen.length → seen.length ≤ 34 + 8 * told4 seen
structure TailOk (k : Nat) (seen : Bits) : Prop where
  hi : k ≤ 9
  odd : odd seen = false
  len : seen.length = 34 + 8 * told4 seen
  few : told4 seen ≤ 8
def PhaseOk : Phase → Prop
  | .idle => True
  | .body seen _ run => BodyOk seen run
  | .tail k seen => TailOk k seen
  | .flag k => k ≤ 5
  | .rest k => k ≤ 10
  | .off => True
def SendOk (s : St) (todo : Bits) : Prop := ∃ f, s.want = some f ∧ f.Ok ∧ (Own f s.phase todo ∨ (∃ k, s.phase = .tail k (plain f) ∧ todo = []))
structure Wf (s : St) : Prop where
  ph : PhaseOk s.phase
  want : ∀ f, s.want = some f → f.Ok
  send : ∀ todo, s.sending = some todo → SendOk s todo
  sent : s.sent ≤ 256
  sent_off : s.phase ≠ .off → s.sent ≤ 255
  heard : s.heard ≤ 127
  got : ∀ f, s.got = some f → f.id < 2048 ∧ f.data.length ≤ 8 ∧ ∀ x, x ∈ f.data → x < 256

theorem odd_few {seen : Bits} (h : odd seen = false) (hl : 19 ≤ seen.length) : told4 seen ≤ 8 := by
  unfold odd at h
  rw [Bool.or_eq_false_iff] at h
  have h2 := h.2
  simp [hl] at h2
  exact h2
theorem told4_append {seen : Bits} (hl : 19 ≤ seen.length) (x : Bits) : told4 (seen ++ x) = told4 seen := by
  unfold told4
  rw [pre_cut (a := seen) (b := x) rfl (by omega)]
theorem numberOf_lt (b : Bits) : numberOf b < 2 ^ b.length := by
  induction b with
  | nil => decide
  | cons x l ih =>
    have e : x :: l = [x] ++ l := rfl
    rw [e, numberOf_append, List.length_append, Nat.pow_add]
    have h1 : numberOf [x] ≤ 1 := by cases x <;> decide
    have h2 : numberOf [x] * 2 ^ l.length ≤ 1 * 2 ^ l.length := Nat.mul_le_mul_right _ h1
    show numberOf [x] * 2 ^ l.length + numberOf l < 2 ^ 1 * 2 ^ l.length
    omega
theorem frameOf_ok {seen : Bits} (h4 : told4 seen ≤ 8) : (frameOf seen).id < 2048 ∧ (frameOf seen).data.length ≤ 8 ∧ ∀ x, x ∈ (frameOf seen).data → x < 256 := by
  refine ⟨?_, ?_, ?_⟩
  · refine Nat.lt_of_lt_of_le (numberOf_lt _) ?_
    show 2 ^ _ ≤ 2 ^ 11
    exact Nat.pow_le_pow_right (by decide) (by simp; omega)
  · simp only [frameOf, List.length_map, List.length_range]
    exact h4
  · intro x hx
    simp only [frameOf, List.mem_map, List.mem_range] at hx
    obtain ⟨i, _, rfl⟩ := hx
    refine Nat.lt_of_lt_of_le (numberOf_lt _) ?_
    show 2 ^ _ ≤ 2 ^ 8
    exact Nat.pow_le_pow_right (by decide) (by simp; omega)

theorem wf_begun : Wf begun := ⟨by show 0 ≤ 10; decide, fun _ h => (by cases h), fun _ h => (by cases h), by decide, fun _ => by decide, by decide, fun _ h => (by cases h)⟩
theorem wf_asked {s t : St} {f : Frame} (h : Wf s) (ok : f.Ok) (e : s.asked f = some t) : Wf t := by
  unfold St.asked at e
  by_cases c : s.want.isSome = true
  · rw [if_pos c] at e; cases e
  · rw [if_neg c] at e
    cases e
    have hn : s.want = none := by cases q : s.want with
      | none => rfl
      | some g => rw [q] at c; exact absurd rfl c
    refine ⟨h.ph, fun g hg => ?_, fun todo ht => ?_, h.sent, h.sent_off, h.heard, h.got⟩
    · cases hg; exact ok
    · obtain ⟨g, hg, _⟩ := h.send todo ht
      rw [hn] at hg
      cases hg
theorem wf_error {s : St} (h : Wf s) (hn : s.phase ≠ .off) : Wf s.error.1 := by
  unfold St.error
  split
  · split
    · exact ⟨trivial, h.want, fun _ q => (by cases q), Nat.le_refl 256, fun q => absurd rfl q, h.heard, h.got⟩
    · exact ⟨by show 0 ≤ 5; decide, h.want, fun _ q => (by cases q), (by show s.sent + 8 ≤ 256; omega), fun _ => (by show s.sent + 8 ≤ 255; omega), h.heard, h.got⟩
  · rename_i c
    refine ⟨by show 0 ≤ 5; decide, h.want, fun todo q => ?_, h.sent, fun _ => h.sent_off hn, (by show min 127 (s.heard + 1) ≤ 127; omega), h.got⟩
    have : s.sending = some todo := q
    rw [this] at c
    exact absurd rfl c
/-- one more bit heard, as a hearer -/
theorem wf_more {s : St} (h : Wf s) (hn : s.phase ≠ .off) (hs : s.sending = none) {seen : Bits} {last : Bool} {run : Nat} (hp : 0 < seen.length) (lo : 1 ≤ run) (hi : run ≤ 5) (hm : 19 ≤ seen.length → odd seen = false → seen.length ≤ 34 + 8 * told4 seen) : Wf (s.more seen last run).1 := by
  unfold St.more
  by_cases c : odd seen = true
  · rw [if_pos c]
    exact wf_error h hn
  · rw [if_neg c]
    have c' : odd seen = false := by simpa using c
    split
    · rename_i a
      exact ⟨⟨by decide, c', a.2.1, odd_few c' a.1⟩, h.want, fun todo q => (by rw [show s.sending = some todo from q] at hs; cases hs), h.sent, fun _ => h.sent_off hn, h.heard, h.got⟩
    · rename_i a
      exact ⟨⟨hp, c', lo, hi, a, fun l => hm l c'⟩, h.want, fun todo q => (by rw [show s.sending = some todo from q] at hs; cases hs), h.sent, fun _ => h.sent_off hn, h.heard, h.got⟩
theorem wf_read {s : St} (h : Wf s) (hs : s.sending = none) {seen : Bits} {last : Bool} {run : Nat} (hph : BodyOk seen run) (hn : s.phase ≠ .off) (b : Bool) : Wf (s.read seen last run b).1 := by
  unfold St.read
  by_cases c : run = 5
  · rw [if_pos c]
    by_cases d : b = last
    · rw [if_pos d]
      exact wf_error h hn
    · rw [if_neg d]
      exact wf_more h hn hs hph.pos (by decide) (by decide) fun l _ => hph.most l
  · rw [if_neg c]
    refine wf_more h hn hs (by simp) ?_ ?_ ?_
    · split <;> omega
    · have := hph.hi
      split <;> omega
    · intro l o
      rw [List.length_append] at l ⊢
      show seen.length + 1 ≤ _
      by_cases q : 19 ≤ seen.length
      · rw [told4_append q]
        have h1 := hph.most q
        have h2 := hph.not_all
        by_cases e : seen.length = 34 + 8 * told4 seen
        · exact absurd ⟨q, e, c⟩ h2
        · omega
      · omega
/-- the phase of a sender's own reading is sound -/
theorem own_phase {f : Frame} (ok : f.Ok) {p : Phase} {todo : Bits} (o : Own f p todo) : PhaseOk p := by
  rcases o.is with ⟨seen, last, run, rest, rfl, hs, hp, lo, hi, hr, _⟩ | ⟨rfl, _⟩
  · refine ⟨hp, pre_odd ok hs, lo, hi, fun a => ?_, fun l => ?_⟩
    · exact a.2.2 (hr ((pre_full ok hs).mp ⟨a.1, a.2.1⟩))
    · have hl : seen.length + rest.length = 34 + 8 * f.data.length := by rw [← plain_length, ← hs, List.length_append]
      have : told4 seen = f.data.length := by
        unfold told4
        rw [pre_cut hs (by omega), plain_count f ok]
      omega
  · have hc : told4 (plain f) = f.data.length := plain_count f ok
    exact ⟨by decide, pre_odd ok (List.append_nil _), by rw [plain_length, hc], by rw [hc]; exact ok.2.1⟩
theorem wf_hears {s : St} (h : Wf s) (b : Bool) : Wf (s.hears b).1 := by
  obtain ⟨phase, sending, want, got, sent, heard⟩ := s
  cases phase with
  | idle =>
    show Wf (if b = true then _ else _ : St × Nat).1
    by_cases c : b = true
    · rw [if_pos c]; exact h
    · rw [if_neg c]
      refine ⟨⟨by decide, by decide, by decide, by decide, by decide, by decide⟩, h.want, fun todo q => ?_, h.sent, fun _ => h.sent_off (by intro q; cases q), h.heard, h.got⟩
      have q : want.map (fun f => (wire f).drop 1) = some todo := q
      cases e : want with
      | none => rw [e] at q; cases q
      | some f =>
        rw [e] at q
        cases q
        exact ⟨f, rfl, h.want f e, .inl (own_first f)⟩
  | body seen last run =>
    have hn : Phase.body seen last run ≠ .off := by intro q; cases q
    have hb : BodyOk seen run := h.ph
    cases sending with
    | none =>
      show Wf (St.read _ seen last run b).1
      exact wf_read h rfl hb hn b
    | some todo =>
      obtain ⟨f, hf, ok, o⟩ := h.send todo rfl
      have hf : want = some f := hf
      subst hf
      have o : Own f (.body seen last run) todo := by
        rcases o with o | ⟨k, q, _⟩
        · exact o
        · cases q
      obtain ⟨t, r, rfl⟩ := own_body o rfl
      show Wf (if b = t then _ else _ : St × Nat).1
      by_cases c : b = t
      · rw [if_pos c]
        subst c
        obtain ⟨_, o2, e2⟩ := own_read ok (s := ⟨.body seen last run, some r, some f, got, sent, heard⟩) o
        have ep := own_phase ok o2
        generalize (St.read _ seen last run b) = z at o2 e2 ep ⊢
        rw [e2]
        refine ⟨ep, h.want, fun todo q => ?_, h.sent, fun _ => h.sent_off hn, h.heard, h.got⟩
        cases q
        exact ⟨f, rfl, ok, .inl o2⟩
      · rw [if_neg c]
        by_cases d : b = false ∧ seen.length < 12
        · rw [if_pos d]
          show Wf (St.read _ seen last run b).1
          exact wf_read (s := ⟨.body seen last run, none, some f, got, sent, heard⟩) ⟨h.ph, h.want, fun _ q => (by cases q), h.sent, h.sent_off, h.heard, h.got⟩ rfl hb hn b
        · rw [if_neg d]
          exact wf_error h hn
  | tail k seen =>
    have hn : Phase.tail k seen ≠ .off := by intro q; cases q
    have ht : TailOk k seen := h.ph
    have stay : ∀ j, j ≤ 9 → Wf ⟨.tail j seen, sending, want, got, sent, heard⟩ := fun j hj =>
      ⟨⟨hj, ht.odd, ht.len, ht.few⟩, h.want, fun todo q => by
        obtain ⟨f, hf, ok, o⟩ := h.send todo q
        refine ⟨f, hf, ok, .inr ?_⟩
        rcases o with o | ⟨k', q', r'⟩
        · rcases o.is with ⟨_, _, _, _, e, _⟩ | ⟨e, r'⟩
          · cases e
          · cases e
            exact ⟨j, rfl, r'⟩
        · cases q'
          exact ⟨j, rfl, r'⟩, h.sent, fun _ => h.sent_off hn, h.heard, h.got⟩
    show Wf (if k = 1 then _ else _ : St × Nat).1
    by_cases c1 : k = 1
    · rw [if_pos c1]
      split
      · exact wf_error h hn
      · exact stay 2 (by decide)
    · rw [if_neg c1]
      split
      · exact wf_error h hn
      · split
        · exact wf_error h hn
        · split
          · unfold St.done
            split
            · exact ⟨by show 8 ≤ 10; decide, fun _ q => (by cases q), fun _ q => (by cases q), Nat.le_trans (Nat.sub_le _ _) h.sent, fun _ => Nat.le_trans (Nat.sub_le _ _) (h.sent_off hn), h.heard, h.got⟩
            · rename_i q
              refine ⟨by show 8 ≤ 10; decide, h.want, fun todo z => ?_, h.sent, fun _ => h.sent_off hn, Nat.le_trans (Nat.sub_le _ _) h.heard, fun g e => ?_⟩
              · have z : sending = some todo := z
                subst z
                exact absurd rfl q
              · cases e
                exact frameOf_ok ht.few
          · exact stay (k + 1) (by have := ht.hi; omega)
  | flag k =>
    have hn : Phase.flag k ≠ .off := by intro q; cases q
    have hk : k ≤ 5 := h.ph
    have hs : sending = none := by
      cases e : sending with
      | none => rfl
      | some todo =>
        obtain ⟨f, _, _, o⟩ := h.send todo e
        rcases o with o | ⟨k', q', _⟩
        · rcases o.is with ⟨_, _, _, _, e, _⟩ | ⟨e, _⟩ <;> cases e
        · cases q'
    subst hs
    refine ⟨?_, h.want, fun _ q => (by cases q), h.sent, fun _ => h.sent_off hn, h.heard, h.got⟩
    show PhaseOk (if k = 5 then .rest 0 else .flag (k + 1))
    split
    · show 0 ≤ 10; decide
    · show k + 1 ≤ 5; omega
  | rest k =>
    have hn : Phase.rest k ≠ .off := by intro q; cases q
    have hk : k ≤ 10 := h.ph
    have hs : sending = none := by
      cases e : sending with
      | none => rfl
      | some todo =>
        obtain ⟨f, _, _, o⟩ := h.send todo e
        rcases o with o | ⟨k', q', _⟩
        · rcases o.is with ⟨_, _, _, _, e, _⟩ | ⟨e, _⟩ <;> cases e
        · cases q'
    subst hs
    refine ⟨?_, h.want, fun _ q => (by cases q), h.sent, fun _ => h.sent_off hn, h.heard, h.got⟩
    show PhaseOk (if b = false then .rest 0 else if k = 10 then .idle else .rest (k + 1))
    split
    · show 0 ≤ 10; decide
    · split
      · trivial
      · show k + 1 ≤ 10; omega
  | off => exact h
end Cw

namespace Cw
open Ql84

/-! ### the flat list, call by call -/
inductive Turn : List Int → List (List Int) → List Int → Prop
  | begin_ (r : List Int) : Turn (0 :: r) [[0]] r
  | send (id n : Int) (b r : List Int) : Turn (1 :: id :: n :: (b.length : Int) :: (b ++ r)) [[1, id, n], b] r
  | out (r : List Int) : Turn (2 :: r) [[2]] r
  | hear (b : Int) (r : List Int) : Turn (3 :: b :: r) [[3, b]] r
  | look (r : List Int) : Turn (4 :: r) [[4]] r
  | count (w : Int) (r : List Int) : Turn (5 :: w :: r) [[5, w]] r
inductive Feed : List Int → List (List (List Int)) → Prop
  | nil : Feed [] []
  | cons {l t : List Int} {c : List (List Int)} {cs : List (List (List Int))} : Turn l c t → Feed t cs → Feed l (c :: cs)

theorem row_turn {l x t : List Int} (h : PyFlat.row l = some (x, t)) : l = (x.length : Int) :: (x ++ t) := by
  cases l with
  | nil => cases h
  | cons n r =>
    have h : (if 0 ≤ n ∧ n.toNat ≤ r.length then some (r.take n.toNat, r.drop n.toNat) else none) = some (x, t) := h
    by_cases c : 0 ≤ n ∧ n.toNat ≤ r.length
    · rw [if_pos c] at h
      cases h
      have e : ((r.take n.toNat).length : Int) = n := by rw [List.length_take]; omega
      rw [e, List.take_append_drop]
    · rw [if_neg c] at h
      cases h
theorem call_turn {l : List Int} {c : List (List Int)} {t : List Int} (h : PyFlat.call PyQl84.shape l = some (c, t)) : Turn l c t := by
  cases l with
  | nil => cases h
  | cons p r =>
    unfold PyFlat.call at h
    have two : ∀ {n : Nat}, (match some (n, 0) with
        | none => none
        | some (n, k) => if r.length < n then none else match PyFlat.rows k (r.drop n) with
          | none => none
          | some (xs, t) => some ((p :: r.take n) :: xs, t)) = some (c, t) → n ≤ r.length ∧ c = [p :: r.take n] ∧ t = r.drop n := by
      intro n q
      dsimp only at q
      by_cases hl : r.length < n
      · rw [if_pos hl] at q; cases q
      · rw [if_neg hl] at q
        cases q
        exact ⟨by omega, rfl, rfl⟩
    by_cases p0 : p = 0
    · subst p0
      obtain ⟨_, rfl, rfl⟩ := two (n := 0) h
      exact .begin_ _
    by_cases p1 : p = 1
    · subst p1
      have h : (if r.length < 2 then none else match PyFlat.rows 1 (r.drop 2) with
          | none => none
          | some (xs, t) => some ((1 :: r.take 2) :: xs, t)) = some (c, t) := h
      match r, h with
      | [], h => cases h
      | [_], h => cases h
      | id :: n :: r, h =>
        rw [if_neg (by simp)] at h
        have h : (match PyFlat.rows 1 r with
          | none => none
          | some (xs, t) => some ([1, id, n] :: xs, t)) = some (c, t) := h
        cases e : PyFlat.row r with
        | none =>
          have : PyFlat.rows 1 r = none := by unfold PyFlat.rows; rw [e]
          rw [this] at h
          cases h
        | some q =>
          obtain ⟨x, s⟩ := q
          have : PyFlat.rows 1 r = some ([x], s) := by unfold PyFlat.rows; rw [e]; rfl
          rw [this] at h
          cases h
          rw [row_turn e]
          exact .send _ _ _ _
    by_cases p2 : p = 2
    · subst p2
      obtain ⟨_, rfl, rfl⟩ := two (n := 0) h
      exact .out _
    by_cases p3 : p = 3
    · subst p3
      obtain ⟨hl, rfl, rfl⟩ := two (n := 1) h
      match r, hl with
      | b :: r, _ => exact .hear _ _
    by_cases p4 : p = 4
    · subst p4
      obtain ⟨_, rfl, rfl⟩ := two (n := 0) h
      exact .look _
    by_cases p5 : p = 5
    · subst p5
      obtain ⟨hl, rfl, rfl⟩ := two (n := 1) h
      match r, hl with
      | b :: r, _ => exact .count _ _
    have : PyQl84.shape p = none := by
      unfold PyQl84.shape
      rw [if_neg p0, if_neg p1, if_neg p2, if_neg p3, if_neg p4, if_neg p5]
    dsimp only at h
    rw [this] at h
    cases h
theorem calls_feed : ∀ (f : Nat) (l : List Int) (cs : List (List (List Int))), PyFlat.calls PyQl84.shape f l = some cs → Feed l cs
  | f, [], cs, h => by
    have h' : some ([] : List (List (List Int))) = some cs := by cases f <;> exact h
    cases h'
    exact .nil
  | 0, _ :: _, _, h => by cases h
  | f + 1, p :: r, cs, h => by
    unfold PyFlat.calls at h
    cases e : PyFlat.call PyQl84.shape (p :: r) with
    | none => rw [e] at h; cases h
    | some q =>
      obtain ⟨c, t⟩ := q
      rw [e] at h
      dsimp only at h
      cases e2 : PyFlat.calls PyQl84.shape f t with
      | none => rw [e2] at h; cases h
      | some ds =>
        rw [e2] at h
        cases h
        exact .cons (call_turn e) (calls_feed f t ds e2)
theorem whole_id (c : List (List Int)) : PyQl84.whole c = c := by
  unfold PyQl84.whole
  split <;> rfl
theorem map_whole (cs : List (List (List Int))) : cs.map PyQl84.whole = cs := by
  have : PyQl84.whole = id := funext whole_id
  rw [this, List.map_id]
/-- what is known of a list that may be handed in -/
theorem asked_feed {l : List Int} (h : PyQl84.answers_asked l = true) : ∃ cs, Feed l ([[0]] :: cs) ∧ (∀ c ∈ cs, Ql84Neutral.asked1 c = true) ∧ cs.length < 14000 ∧
    PyQl84.answers l = PyFlat.told (PyFlat.played Ql84Neutral.step Ql84Neutral.start ([[0]] :: cs)) := by
  unfold PyQl84.answers_asked at h
  cases e : PyFlat.calls PyQl84.shape l.length l with
  | none => rw [e] at h; cases h
  | some raw =>
    rw [e] at h
    dsimp only at h
    rw [Bool.and_eq_true, Bool.and_eq_true, Bool.and_eq_true, Bool.and_eq_true, map_whole] at h
    obtain ⟨⟨⟨⟨h1, h2⟩, h3⟩, h4⟩, h5⟩ := h
    have hF := calls_feed _ _ _ e
    have hans : PyQl84.answers l = PyFlat.told (PyFlat.played Ql84Neutral.step Ql84Neutral.start raw) := by
      unfold PyQl84.answers PyQl84.calls
      rw [e]
      dsimp only
      rw [map_whole]
    unfold Ql84Neutral.asked at h4
    rw [Bool.and_eq_true] at h4
    have hc : raw.length ≤ 14000 := of_decide_eq_true h2
    cases raw with
    | nil => cases h1
    | cons c cs =>
      have hb : Ql84Neutral.begins c = true := h4.2
      have : c = [[0]] := by
        unfold Ql84Neutral.begins at hb
        split at hb
        · rfl
        · cases hb
      subst this
      refine ⟨cs, hF, fun d hd => (List.all_eq_true.mp h4.1) d (List.mem_cons_of_mem _ hd), hc, hans⟩

/-! ### the machine, from a state that is begun -/
/-- a call from a begun state: the state then, the numbers answered -/
def stepS (s : St) (c : List (List Int)) : St × List Int := ((Ql84Neutral.step (some s) c).1.getD begun, (Ql84Neutral.step (some s) c).2)
def toldS : St → List (List (List Int)) → List Int
  | _, [] => []
  | s, c :: r => ((stepS s c).2.length : Int) :: ((stepS s c).2 ++ toldS (stepS s c).1 r)
theorem spec_some (s : St) (q : Ql84.Call) : ∃ t, (Ql84.spec (some s) q).1 = some t := by
  cases q with
  | begin_ => exact ⟨_, rfl⟩
  | send id b n =>
    unfold Ql84.spec
    dsimp only
    split
    · exact ⟨s, rfl⟩
    · split
      · exact ⟨s, rfl⟩
      · exact ⟨_, rfl⟩
  | out => exact ⟨_, rfl⟩
  | hear b =>
    unfold Ql84.spec
    dsimp only
    split
    · exact ⟨s, rfl⟩
    · exact ⟨_, rfl⟩
  | look => exact ⟨_, rfl⟩
  | count w => exact ⟨_, rfl⟩
theorem step_some (s : St) (c : List (List Int)) : (Ql84Neutral.step (some s) c).1 = some (stepS s c).1 := by
  unfold stepS
  unfold Ql84Neutral.step
  cases Ql84Neutral.callOf c with
  | none => rfl
  | some q =>
    obtain ⟨t, e⟩ := spec_some s q
    dsimp only
    rw [e]
    rfl
theorem told_some : ∀ (cs : List (List (List Int))) (s : St), PyFlat.told (PyFlat.played Ql84Neutral.step (some s) cs) = toldS s cs
  | [], s => rfl
  | c :: r, s => by
    show (((Ql84Neutral.step (some s) c).2.length : Int) :: (Ql84Neutral.step (some s) c).2) ++ PyFlat.told (PyFlat.played Ql84Neutral.step (Ql84Neutral.step (some s) c).1 r) = _
    rw [step_some, told_some r]
    rfl
/-- begin is the first call -/
theorem told_first (cs : List (List (List Int))) : PyFlat.told (PyFlat.played Ql84Neutral.step Ql84Neutral.start ([[0]] :: cs)) = toldS begun ([[0]] :: cs) := by
  show _ = (1 : Int) :: ([0] ++ toldS begun cs)
  rw [← told_some]
  rfl

/-! ### each call in plain words -/
theorem step_begin (s : St) : stepS s [[0]] = (begun, [0]) := rfl
theorem step_out (s : St) : stepS s [[2]] = (s, [if s.out = true then 1 else 0]) := rfl
theorem step_look (s : St) : stepS s [[4]] = (s, match s.got with
    | none => [-1]
    | some f => ((3 + f.data.length : Nat) : Int) :: ((f.id / 256 : Nat) : Int) :: ((f.id % 256 : Nat) : Int) :: ((f.data.length : Nat) : Int) :: f.data.map (fun (x : Nat) => (x : Int))) := by
  unfold stepS Ql84Neutral.step
  show ((some s : Abs).getD begun, _) = _
  cases e : s.got with
  | none =>
    show (s, (match s.got with
      | none => only (-1)
      | some f => ⟨((3 + f.data.length : Nat) : Int), f.id / 256 :: f.id % 256 :: f.data.length :: f.data⟩ : Ans).v :: _) = _
    simp only [Ql84.spec, e]
    rfl
  | some f =>
    simp only [Ql84Neutral.callOf, Ql84.spec, e]
    rfl
theorem between_iff {z : Int} {lo hi : Nat} : between z lo hi = true ↔ (lo : Int) ≤ z ∧ z ≤ (hi : Int) := by
  unfold between
  rw [Bool.and_eq_true, decide_eq_true_iff, decide_eq_true_iff]
theorem between_no {z : Int} {lo hi : Nat} : between z lo hi = false ↔ ¬ ((lo : Int) ≤ z ∧ z ≤ (hi : Int)) := by
  rw [← between_iff]
  cases between z lo hi <;> simp
theorem step_hear_no {s : St} {b : Int} (h : ¬ (b = 0 ∨ b = 1)) : stepS s [[3, b]] = (s, [-2]) := by
  have : between b 0 1 = false := between_no.mpr (by omega)
  unfold stepS Ql84Neutral.step
  simp only [Ql84Neutral.callOf, Ql84.spec, this]
  rfl
theorem step_hear (s : St) (b : Bool) : stepS s [[3, (b.toNat : Int)]] = ((s.hears b).1, [((s.hears b).2 : Int)]) := by
  cases b <;> rfl
theorem step_count (s : St) (w : Int) : stepS s [[5, w]] = (s, [if w = 0 then (s.sent : Int) else if w = 1 then (s.heard : Int) else if w = 2 then (s.phase.number : Int) else -2]) := by
  unfold stepS Ql84Neutral.step
  by_cases h : between w 0 2 = false
  · have h' := between_no.mp h
    have e0 : w ≠ 0 := by intro q; subst q; exact h' (by decide)
    have e1 : w ≠ 1 := by intro q; subst q; exact h' (by decide)
    have e2 : w ≠ 2 := by intro q; subst q; exact h' (by decide)
    simp only [Ql84Neutral.callOf, Ql84.spec, h, if_neg e0, if_neg e1, if_neg e2]
    rfl
  · have h2 : between w 0 2 = true := by simpa using h
    have h' := between_iff.mp h2
    simp only [Ql84Neutral.callOf, Ql84.spec, h2]
    by_cases w0 : w = 0
    · subst w0; rfl
    by_cases w1 : w = 1
    · subst w1; rfl
    have w2 : w = 2 := by omega
    subst w2; rfl
theorem step_send_no {s : St} {id n : Int} {b : List Int} (h : ¬ (0 ≤ id ∧ id ≤ 2047) ∨ 8 < n) : stepS s [[1, id, n], b] = (s, [-2]) := by
  have : between id 0 2047 = false ∨ 8 < n.toNat := by
    rcases h with h | h
    · exact .inl (between_no.mpr h)
    · exact .inr (by omega)
  unfold stepS Ql84Neutral.step
  simp only [Ql84Neutral.callOf, Ql84.spec, if_pos this]
  rfl
theorem step_send {s : St} {id n : Int} {b : List Int} (h1 : 0 ≤ id) (h2 : id ≤ 2047) (h3 : 0 ≤ n) (h4 : n ≤ 8) :
    stepS s [[1, id, n], b] = if s.want.isSome = true then (s, [-1]) else ({ s with want := some ⟨id.toNat, Ql84Neutral.nats b⟩ }, [0]) := by
  have : ¬ (between id 0 2047 = false ∨ 8 < n.toNat) := by
    rintro (h | h)
    · exact between_no.mp h ⟨h1, h2⟩
    · omega
  unfold stepS Ql84Neutral.step
  simp only [Ql84Neutral.callOf, Ql84.spec, if_neg this, St.asked]
  by_cases c : s.want.isSome = true
  · simp only [if_pos c]
    rfl
  · simp only [if_neg c]
    rfl
/-- what asked tells of a send -/
theorem asked_send {id n : Int} {b : List Int} (h : Ql84Neutral.asked1 [[1, id, n], b] = true) : 0 ≤ n ∧ n < 4294967296 ∧ (∀ z ∈ b, 0 ≤ z ∧ z < 256) ∧ (n ≤ 8 → (b.length : Int) = n) ∧ (8 < n → b = []) ∧ b.length ≤ 8 := by
  have h : (Ql84Neutral.whole32 id && (Ql84Neutral.natural n 32 && (b.all (fun (z : Int) => Ql84Neutral.natural z 8) && Ql84Neutral.long b n 0 8))) = true := h
  rw [Bool.and_eq_true, Bool.and_eq_true, Bool.and_eq_true] at h
  obtain ⟨h1, h2, h3, h4⟩ := h
  unfold Ql84Neutral.natural at h2
  rw [Bool.and_eq_true, decide_eq_true_iff, decide_eq_true_iff] at h2
  have h2' : n < 4294967296 := h2.2
  unfold Ql84Neutral.long at h4
  have h4 := of_decide_eq_true h4
  refine ⟨h2.1, h2', fun z hz => ?_, fun c => ?_, fun c => ?_, ?_⟩
  · have := List.all_eq_true.mp h3 z hz
    unfold Ql84Neutral.natural at this
    rw [Bool.and_eq_true, decide_eq_true_iff, decide_eq_true_iff] at this
    exact this
  · rw [if_pos ⟨h2.1, c⟩] at h4; exact h4
  · rw [if_neg (by omega)] at h4
    exact List.eq_nil_of_length_eq_zero (by omega)
  · split at h4 <;> omega

theorem frame_ok {id n : Int} {b : List Int} (h : Ql84Neutral.asked1 [[1, id, n], b] = true) (h1 : 0 ≤ id) (h2 : id ≤ 2047) : (⟨id.toNat, Ql84Neutral.nats b⟩ : Frame).Ok := by
  obtain ⟨_, _, hb, _, _, hl⟩ := asked_send h
  refine ⟨by show id.toNat < 2048; omega, by show (b.map Int.toNat).length ≤ 8; rw [List.length_map]; exact hl, fun x hx => ?_⟩
  obtain ⟨z, hz, rfl⟩ := List.mem_map.mp (show x ∈ b.map Int.toNat from hx)
  have := hb z hz
  omega
theorem one_le : 1 ≤ 12 := by decide
/-- each call keeps what can be reached, and answers few numbers -/
theorem wf_step {l t : List Int} {c : List (List Int)} (T : Turn l c t) (ha : Ql84Neutral.asked1 c = true) {s : St} (h : Wf s) : Wf (stepS s c).1 ∧ (stepS s c).2.length ≤ 12 := by
  cases T with
  | begin_ => exact ⟨wf_begun, one_le⟩
  | send id n b =>
    have hs := asked_send ha
    by_cases c1 : ¬ (0 ≤ id ∧ id ≤ 2047) ∨ 8 < n
    · rw [step_send_no c1]
      exact ⟨h, one_le⟩
    · have c2 : (0 ≤ id ∧ id ≤ 2047) ∧ n ≤ 8 := by omega
      rw [step_send c2.1.1 c2.1.2 hs.1 c2.2]
      by_cases q : s.want.isSome = true
      · rw [if_pos q]
        exact ⟨h, one_le⟩
      · rw [if_neg q]
        exact ⟨wf_asked h (frame_ok ha c2.1.1 c2.1.2) (by unfold St.asked; rw [if_neg q]), one_le⟩
  | out => exact ⟨h, one_le⟩
  | hear b =>
    by_cases q : b = 0 ∨ b = 1
    · rcases q with q | q
      · subst q
        exact ⟨by rw [show (0 : Int) = ((false).toNat : Int) from rfl, step_hear]; exact wf_hears h _, one_le⟩
      · subst q
        exact ⟨by rw [show (1 : Int) = ((true).toNat : Int) from rfl, step_hear]; exact wf_hears h _, one_le⟩
    · rw [step_hear_no q]
      exact ⟨h, one_le⟩
  | look =>
    rw [step_look]
    refine ⟨h, ?_⟩
    cases e : s.got with
    | none => exact one_le
    | some f =>
      have := (h.got f e).2.1
      simp only [List.length_cons, List.length_map]
      omega
  | count w =>
    rw [step_count]
    exact ⟨h, one_le⟩
end Cw

namespace Cw
open Ql84
/-! ### the sum of bits with their own sum behind them is 0, and of no others -/
theorem sumStep_lt15 (r : Nat) (b : Bool) : sumStep r b < 32768 := by
  unfold sumStep
  split
  · exact Nat.xor_lt_two_pow (n := 15) (by omega) (by decide)
  · omega
theorem testBit14 {r : Nat} (h : r < 32768) : (r.testBit 14).toNat = r / 16384 := by
  rw [Nat.testBit_eq_decide_div_mod_eq]
  have h1 : r / 2 ^ 14 = 0 ∨ r / 2 ^ 14 = 1 := by omega
  rcases h1 with h1 | h1
  · rw [h1]
    show 0 = _
    omega
  · rw [h1]
    show 1 = _
    omega
theorem step_is {r M : Nat} {x : Bool} (h : r < 32768) (hM : M < 16384) : sumStep r x = 2 * M ↔ r = x.toNat * 16384 + M := by
  have ht := testBit14 h
  unfold sumStep
  by_cases c : x = r.testBit 14
  · have c' : ¬ ((x != r.testBit 14) = true) := by rw [c]; simp
    rw [if_neg c']
    rw [← c] at ht
    cases x
    · have : (false : Bool).toNat = 0 := rfl
      rw [this] at ht ⊢
      omega
    · have : (true : Bool).toNat = 1 := rfl
      rw [this] at ht ⊢
      omega
  · have c' : (x != r.testBit 14) = true := by
      rw [bne_iff_ne]
      exact c
    rw [if_pos c']
    constructor
    · intro e
      exfalso
      have h1 := congrArg (fun z => Nat.testBit z 0) e
      simp only [Nat.testBit_xor] at h1
      have h2 : (2 * r % 32768).testBit 0 = false := by
        rw [Nat.testBit_zero]
        simp
      have h3 : (2 * M).testBit 0 = false := by
        rw [Nat.testBit_zero]
        simp
      have h4 : Nat.testBit 17817 0 = true := by decide
      rw [h2, h3, h4] at h1
      exact absurd h1 (by decide)
    · intro e
      exfalso
      apply c
      have : r / 16384 = x.toNat := by
        cases x
        · have : (false : Bool).toNat = 0 := rfl
          rw [this] at e ⊢
          omega
        · have : (true : Bool).toNat = 1 := rfl
          rw [this] at e ⊢
          omega
      rw [← ht] at this
      revert this
      generalize r.testBit 14 = y
      cases x <;> cases y <;> simp
theorem fold_zero : ∀ (b : Bits) (r : Nat), r < 32768 → b.length ≤ 15 → (b.foldl sumStep r = 0 ↔ r = numberOf b * 2 ^ (15 - b.length))
  | [], r, _, _ => by
    show r = 0 ↔ r = 0 * _
    rw [Nat.zero_mul]
  | x :: b, r, h, hl => by
    have hl' : b.length ≤ 14 := by simpa using hl
    show b.foldl sumStep (sumStep r x) = 0 ↔ _
    rw [fold_zero b _ (sumStep_lt15 r x) (by omega)]
    have hN := numberOf_lt b
    have e1 : numberOf (x :: b) = x.toNat * 2 ^ b.length + numberOf b := by
      have := numberOf_append [x] b
      have e : numberOf [x] = x.toNat := by cases x <;> rfl
      rw [e] at this
      exact this
    have e2 : 2 ^ (15 - b.length) = 2 * 2 ^ (14 - b.length) := by
      rw [← Nat.pow_succ']
      congr 1
      omega
    have e3 : 2 ^ b.length * 2 ^ (14 - b.length) = 16384 := by
      rw [← Nat.pow_add]
      have : b.length + (14 - b.length) = 14 := by omega
      rw [this]
    have hM : numberOf b * 2 ^ (14 - b.length) < 16384 := by
      rw [← e3]
      exact Nat.mul_lt_mul_of_pos_right hN (Nat.pow_pos (by decide))
    have e4 : 15 - (x :: b).length = 14 - b.length := by
      rw [List.length_cons]
      omega
    rw [e4, e1, Nat.add_mul, Nat.mul_assoc, e3, e2, Nat.mul_left_comm]
    exact step_is h hM
theorem sum_lt15 : ∀ (l : Bits) (r : Nat), r < 32768 → l.foldl sumStep r < 32768
  | [], _, h => h
  | b :: l, r, _ => sum_lt15 l _ (sumStep_lt15 r b)
theorem good_is {seen : Bits} (h : 15 ≤ seen.length) : good seen = decide (sum seen = 0) := by
  have e : sum seen = (seen.drop (seen.length - 15)).foldl sumStep (sum (seen.take (seen.length - 15))) := by
    unfold sum
    rw [← List.foldl_append, List.take_append_drop]
  have hd : (seen.drop (seen.length - 15)).length = 15 := by
    rw [List.length_drop]
    omega
  have hz := fold_zero (seen.drop (seen.length - 15)) (sum (seen.take (seen.length - 15))) (sum_lt15 _ _ (by decide)) (by omega)
  rw [hd, Nat.sub_self, Nat.pow_zero, Nat.mul_one] at hz
  unfold good
  rw [e, Bool.eq_iff_iff, decide_eq_true_iff, beq_iff_eq]
  exact hz.symm

/-! ### a frame as it is heard -/
structure HM where
  seen : Bits
  last : Option Bool
  run : Nat
def HM.new : HM := ⟨[], none, 0⟩
/-- whether a bit may stand behind these -/
def goOn (s : Bits) (b : Bool) : Bool := if 12 < s.length + 1 ∧ s.length + 1 ≤ 15 then !b else (!decide (s.length + 1 = 19) || decide (told4 (s ++ [b]) ≤ 8))
theorem goOn_odd {s : Bits} {b : Bool} (h : odd s = false) : goOn s b = !odd (s ++ [b]) := by
  unfold odd at h
  rw [Bool.or_eq_false_iff] at h
  obtain ⟨h1, h2⟩ := h
  unfold goOn odd
  have hlen : (s ++ [b]).length = s.length + 1 := by simp
  rw [hlen]
  by_cases c : 12 < s.length + 1 ∧ s.length + 1 ≤ 15
  · rw [if_pos c]
    have n19 : decide (19 ≤ s.length + 1) = false := decide_eq_false (by omega)
    rw [n19, Bool.false_and, Bool.or_false]
    have e1 : (s.drop 12).take 3 = s.drop 12 := List.take_of_length_le (by rw [List.length_drop]; omega)
    rw [e1] at h1
    have e2 : ((s ++ [b]).drop 12).take 3 = s.drop 12 ++ [b] := by
      rw [List.drop_append_of_le_length (by omega)]
      exact List.take_of_length_le (by rw [List.length_append, List.length_drop]; simp; omega)
    rw [e2, List.any_append, h1]
    cases b <;> rfl
  · rw [if_neg c]
    by_cases c1 : s.length + 1 ≤ 12
    · have n19 : decide (19 ≤ s.length + 1) = false := decide_eq_false (by omega)
      have n19' : decide (s.length + 1 = 19) = false := decide_eq_false (by omega)
      have e : (s ++ [b]).drop 12 = [] := List.drop_eq_nil_of_le (by rw [hlen]; exact c1)
      rw [n19, n19', e]
      rfl
    · have hl : 15 ≤ s.length := by omega
      have e : ((s ++ [b]).drop 12).take 3 = (s.drop 12).take 3 := (pre_cut (a := s) (b := [b]) rfl (by omega)).symm
      rw [e, h1, Bool.false_or]
      by_cases c2 : s.length + 1 = 19
      · rw [decide_eq_true c2, decide_eq_true (show 19 ≤ s.length + 1 by omega)]
        show decide (told4 (s ++ [b]) ≤ 8) = !decide (8 < told4 (s ++ [b]))
        by_cases c3 : told4 (s ++ [b]) ≤ 8
        · rw [decide_eq_true c3, decide_eq_false (by omega)]
          rfl
        · rw [decide_eq_false c3, decide_eq_true (by omega)]
          rfl
      · rw [decide_eq_false c2]
        by_cases c4 : 19 ≤ s.length
        · have h3 : told4 s ≤ 8 := by
            rw [decide_eq_true c4, Bool.true_and] at h2
            have := of_decide_eq_false h2
            exact Nat.le_of_not_lt this
          have h4 : told4 (s ++ [b]) ≤ 8 := by rw [told4_append c4]; exact h3
          have h5 : decide (8 < numberOf (((s ++ [b]).drop 15).take 4)) = false := decide_eq_false (Nat.not_lt.mpr h4)
          rw [h5, Bool.and_false]
          rfl
        · rw [decide_eq_false (show ¬ 19 ≤ s.length + 1 by omega)]
          rfl
def HM.take (m : HM) (b : Bool) : HM × Bool :=
  if m.run = 5 then (if m.last = some b then (m, false) else (⟨m.seen, some b, 1⟩, true))
  else (⟨m.seen ++ [b], some b, if m.last = some b then m.run + 1 else 1⟩, goOn m.seen b)
def HM.whole (m : HM) : Bool := decide (19 ≤ m.seen.length ∧ m.seen.length = 34 + 8 * told4 m.seen ∧ m.run ≠ 5)
/-- what the frame heard tells is what the document's reading does -/
theorem take_read {s : St} {seen : Bits} {last b : Bool} {run : Nat} (ok : BodyOk seen run) {m : HM} (hm : m = ⟨seen, some last, run⟩) :
    s.read seen last run b = if (m.take b).2 = false then s.error else if (m.take b).1.whole = true then ({ s with phase := .tail 0 (m.take b).1.seen }, 0) else ({ s with phase := .body (m.take b).1.seen b (m.take b).1.run }, 0) := by
  subst hm
  unfold St.read HM.take
  by_cases c : run = 5
  · rw [if_pos c, if_pos c]
    by_cases d : b = last
    · rw [if_pos d, if_pos (show (some last : Option Bool) = some b by rw [d])]
      rfl
    · rw [if_neg d, if_neg (show ¬ (some last : Option Bool) = some b by intro q; exact d (Option.some.inj q).symm)]
      unfold St.more HM.whole
      rw [ok.odd, if_neg Bool.false_ne_true, if_neg (by decide : ¬ (true : Bool) = false)]
      show (if 19 ≤ seen.length ∧ seen.length = 34 + 8 * told4 seen ∧ (1 : Nat) ≠ 5 then _ else _) = _
      by_cases e : 19 ≤ seen.length ∧ seen.length = 34 + 8 * told4 seen ∧ (1 : Nat) ≠ 5
      · rw [if_pos e, if_pos (decide_eq_true e)]
      · rw [if_neg e, if_neg (by rw [decide_eq_true_iff]; exact e)]
  · rw [if_neg c, if_neg c]
    unfold St.more HM.whole
    dsimp only
    rw [goOn_odd ok.odd]
    have er : (if (some last : Option Bool) = some b then run + 1 else 1) = (if b = last then run + 1 else 1) := by
      by_cases d : b = last
      · rw [if_pos d, if_pos (by rw [d])]
      · rw [if_neg d, if_neg (fun q => d (Option.some.inj q).symm)]
    rw [er]
    by_cases o : odd (seen ++ [b]) = true
    · rw [if_pos o, o]
      rfl
    · have o' : odd (seen ++ [b]) = false := by simpa using o
      rw [if_neg o, o', show (!false) = true from rfl, if_neg (show ¬ (true : Bool) = false by decide)]
      by_cases e : 19 ≤ (seen ++ [b]).length ∧ (seen ++ [b]).length = 34 + 8 * told4 (seen ++ [b]) ∧ (if b = last then run + 1 else 1) ≠ 5
      · rw [if_pos (decide_eq_true e)]
        exact if_pos e
      · refine (if_neg e).trans (if_neg ?_).symm
        rw [decide_eq_true_iff]
        exact e
/-- the numbers of a frame that was got -/
def cont (f : Frame) : List Int := ((f.id / 256 : Nat) : Int) :: ((f.id % 256 : Nat) : Int) :: (f.data.length : Int) :: f.data.map (fun (x : Nat) => (x : Int))
end Cw

namespace Cw
open PySem PySem.Spec PyProof.Rows L2
open PySem.W (Codec)
def topS (i : Nat) : Stmt := PySem.Challenge.pw_lowestwins_s01_answers.main.body.getD i (.Pass ⟨0, 0, 0, 0⟩)
abbrev s_may_be_sent : Stmt := topS 13
theorem sc_may_be_sent : FnScope ["name", "length"] ["name", "length"] (defScope s_may_be_sent) := ⟨rfl, rfl, rfl, by decide +kernel, rfl, by decide +kernel, by decide +kernel⟩
abbrev s_bits_of : Stmt := topS 14
theorem sc_bits_of : FnScope ["number", "width", "place"] ["number", "width"] (defScope s_bits_of) := ⟨rfl, rfl, rfl, by decide +kernel, rfl, by decide +kernel, by decide +kernel⟩
abbrev s_number_of : Stmt := topS 15
theorem sc_number_of : FnScope ["bits", "number", "bit"] ["bits"] (defScope s_number_of) := ⟨rfl, rfl, rfl, by decide +kernel, rfl, by decide +kernel, by decide +kernel⟩
abbrev s_sum_with : Stmt := topS 16
theorem sc_sum_with : FnScope ["total", "bit", "shifted"] ["total", "bit"] (defScope s_sum_with) := ⟨rfl, rfl, rfl, by decide +kernel, rfl, by decide +kernel, by decide +kernel⟩
abbrev s_sum_of : Stmt := topS 17
theorem sc_sum_of : FnScope ["bits", "total", "bit"] ["bits"] (defScope s_sum_of) := ⟨rfl, rfl, rfl, by decide +kernel, rfl, by decide +kernel, by decide +kernel⟩
abbrev s_frame_bits : Stmt := topS 18
theorem sc_frame_bits : FnScope ["name", "data", "bits", "byte"] ["name", "data"] (defScope s_frame_bits) := ⟨rfl, rfl, rfl, by decide +kernel, rfl, by decide +kernel, by decide +kernel⟩
abbrev s_stuffed : Stmt := topS 19
theorem sc_stuffed : FnScope ["bits", "row", "alike", "bit"] ["bits"] (defScope s_stuffed) := ⟨rfl, rfl, rfl, by decide +kernel, rfl, by decide +kernel, by decide +kernel⟩
abbrev s_hinit : Stmt := inClass (topS 21) 0
theorem sc_hinit : FnScope ["self"] ["self"] (defScope s_hinit) := ⟨rfl, rfl, rfl, by decide +kernel, rfl, by decide +kernel, by decide +kernel⟩
abbrev s_take : Stmt := inClass (topS 21) 1
theorem sc_take : FnScope ["self", "bit", "is_stuffed"] ["self", "bit"] (defScope s_take) := ⟨rfl, rfl, rfl, by decide +kernel, rfl, by decide +kernel, by decide +kernel⟩
abbrev s_may_go_on : Stmt := inClass (topS 21) 2
theorem sc_may_go_on : FnScope ["self", "heard"] ["self"] (defScope s_may_go_on) := ⟨rfl, rfl, rfl, by decide +kernel, rfl, by decide +kernel, by decide +kernel⟩
abbrev s_is_ranked : Stmt := inClass (topS 21) 3
theorem sc_is_ranked : FnScope ["self"] ["self"] (defScope s_is_ranked) := ⟨rfl, rfl, rfl, by decide +kernel, rfl, by decide +kernel, by decide +kernel⟩
abbrev s_is_whole : Stmt := inClass (topS 21) 4
theorem sc_is_whole : FnScope ["self", "heard"] ["self"] (defScope s_is_whole) := ⟨rfl, rfl, rfl, by decide +kernel, rfl, by decide +kernel, by decide +kernel⟩
abbrev s_sum_is_right : Stmt := inClass (topS 21) 5
theorem sc_sum_is_right : FnScope ["self"] ["self"] (defScope s_sum_is_right) := ⟨rfl, rfl, rfl, by decide +kernel, rfl, by decide +kernel, by decide +kernel⟩
abbrev s_length : Stmt := inClass (topS 21) 6
theorem sc_length : FnScope ["self"] ["self"] (defScope s_length) := ⟨rfl, rfl, rfl, by decide +kernel, rfl, by decide +kernel, by decide +kernel⟩
abbrev s_sum_at : Stmt := inClass (topS 21) 7
theorem sc_sum_at : FnScope ["self"] ["self"] (defScope s_sum_at) := ⟨rfl, rfl, rfl, by decide +kernel, rfl, by decide +kernel, by decide +kernel⟩
abbrev s_contents : Stmt := inClass (topS 21) 8
theorem sc_contents : FnScope ["self", "name", "row", "start"] ["self"] (defScope s_contents) := ⟨rfl, rfl, rfl, by decide +kernel, rfl, by decide +kernel, by decide +kernel⟩
abbrev s_init : Stmt := inClass (topS 51) 0
theorem sc_init : FnScope ["self"] ["self"] (defScope s_init) := ⟨rfl, rfl, rfl, by decide +kernel, rfl, by decide +kernel, by decide +kernel⟩
abbrev s_begin : Stmt := inClass (topS 51) 1
theorem sc_begin : FnScope ["self"] ["self"] (defScope s_begin) := ⟨rfl, rfl, rfl, by decide +kernel, rfl, by decide +kernel, by decide +kernel⟩
abbrev s_send : Stmt := inClass (topS 51) 2
theorem sc_send : FnScope ["self", "name", "length", "data"] ["self", "name", "length", "data"] (defScope s_send) := ⟨rfl, rfl, rfl, by decide +kernel, rfl, by decide +kernel, by decide +kernel⟩
abbrev s_out : Stmt := inClass (topS 51) 3
theorem sc_out : FnScope ["self"] ["self"] (defScope s_out) := ⟨rfl, rfl, rfl, by decide +kernel, rfl, by decide +kernel, by decide +kernel⟩
abbrev s_confirms : Stmt := inClass (topS 51) 4
theorem sc_confirms : FnScope ["self"] ["self"] (defScope s_confirms) := ⟨rfl, rfl, rfl, by decide +kernel, rfl, by decide +kernel, by decide +kernel⟩
abbrev s_hear : Stmt := inClass (topS 51) 5
theorem sc_hear : FnScope ["self", "bit"] ["self", "bit"] (defScope s_hear) := ⟨rfl, rfl, rfl, by decide +kernel, rfl, by decide +kernel, by decide +kernel⟩
abbrev s_hear_idle : Stmt := inClass (topS 51) 6
theorem sc_hear_idle : FnScope ["self", "bit"] ["self", "bit"] (defScope s_hear_idle) := ⟨rfl, rfl, rfl, by decide +kernel, rfl, by decide +kernel, by decide +kernel⟩
abbrev s_hear_in_frame : Stmt := inClass (topS 51) 7
theorem sc_hear_in_frame : FnScope ["self", "bit", "answer"] ["self", "bit"] (defScope s_hear_in_frame) := ⟨rfl, rfl, rfl, by decide +kernel, rfl, by decide +kernel, by decide +kernel⟩
abbrev s_hear_in_tail : Stmt := inClass (topS 51) 8
theorem sc_hear_in_tail : FnScope ["self", "bit"] ["self", "bit"] (defScope s_hear_in_tail) := ⟨rfl, rfl, rfl, by decide +kernel, rfl, by decide +kernel, by decide +kernel⟩
abbrev s_fits_tail : Stmt := inClass (topS 51) 9
theorem sc_fits_tail : FnScope ["self", "bit"] ["self", "bit"] (defScope s_fits_tail) := ⟨rfl, rfl, rfl, by decide +kernel, rfl, by decide +kernel, by decide +kernel⟩
abbrev s_end_frame : Stmt := inClass (topS 51) 10
theorem sc_end_frame : FnScope ["self", "was_sender"] ["self"] (defScope s_end_frame) := ⟨rfl, rfl, rfl, by decide +kernel, rfl, by decide +kernel, by decide +kernel⟩
abbrev s_fail : Stmt := inClass (topS 51) 11
theorem sc_fail : FnScope ["self"] ["self"] (defScope s_fail) := ⟨rfl, rfl, rfl, by decide +kernel, rfl, by decide +kernel, by decide +kernel⟩
abbrev s_hear_telling : Stmt := inClass (topS 51) 12
theorem sc_hear_telling : FnScope ["self"] ["self"] (defScope s_hear_telling) := ⟨rfl, rfl, rfl, by decide +kernel, rfl, by decide +kernel, by decide +kernel⟩
abbrev s_hear_waiting : Stmt := inClass (topS 51) 13
theorem sc_hear_waiting : FnScope ["self", "bit"] ["self", "bit"] (defScope s_hear_waiting) := ⟨rfl, rfl, rfl, by decide +kernel, rfl, by decide +kernel, by decide +kernel⟩
abbrev s_look : Stmt := inClass (topS 51) 14
theorem sc_look : FnScope ["self"] ["self"] (defScope s_look) := ⟨rfl, rfl, rfl, by decide +kernel, rfl, by decide +kernel, by decide +kernel⟩
abbrev s_counted : Stmt := inClass (topS 51) 15
theorem sc_counted : FnScope ["self", "what"] ["self", "what"] (defScope s_counted) := ⟨rfl, rfl, rfl, by decide +kernel, rfl, by decide +kernel, by decide +kernel⟩
abbrev s_answers : Stmt := topS 61
theorem sc_answers : FnScope ["calls", "node", "given", "start", "end", "answer"] ["calls"] (defScope s_answers) := ⟨rfl, rfl, rfl, by decide +kernel, rfl, by decide +kernel, by decide +kernel⟩
abbrev s_end_of_call : Stmt := topS 62
theorem sc_end_of_call : FnScope ["calls", "start"] ["calls", "start"] (defScope s_end_of_call) := ⟨rfl, rfl, rfl, by decide +kernel, rfl, by decide +kernel, by decide +kernel⟩
abbrev s_answer_to : Stmt := topS 63
theorem sc_answer_to : FnScope ["node", "call", "number"] ["node", "call"] (defScope s_answer_to) := ⟨rfl, rfl, rfl, by decide +kernel, rfl, by decide +kernel, by decide +kernel⟩
/-- a def of the module: it stands there, its arguments bind, the module's name holds it -/
structure Df (K : PySem.W.Frag) (mg : Str → Option Value) (x : Str) (st : Stmt) (ps : List Str) (f : Addr) (fd : FuncData) : Prop where
  F : Fun K x x st f fd
  b : Binds K fd ps []
  m : mg x = some (.ref f)
/-- a method of the class -/
structure Mf (K : PySem.W.Frag) (C : Addr) (x qual : Str) (st : Stmt) (ps : List Str) (f : Addr) (fd : FuncData) : Prop where
  F : Fun K x qual st f fd
  b : Binds K fd ps []
  m : Meth K C x f
/-- what the program's top leaves -/
structure Env (K : PySem.W.Frag) (mg : Str → Option Value) where
  HC : Addr
  clH : Cls K HC
  mgHC : mg "HeardFrame" = some (.ref HC)
  C : Addr
  cl : Cls K C
  mgC : mg "Node" = some (.ref C)
  n_bits : NoAttr K HC "bits"
  n_remainder : NoAttr K HC "remainder"
  n_last : NoAttr K HC "last"
  n_alike : NoAttr K HC "alike"
  n_state : NoAttr K C "state"
  n_ones : NoAttr K C "ones"
  n_wanted : NoAttr K C "wanted"
  n_got : NoAttr K C "got"
  n_sender_errors : NoAttr K C "sender_errors"
  n_hearer_errors : NoAttr K C "hearer_errors"
  n_is_sender : NoAttr K C "is_sender"
  n_heard : NoAttr K C "heard"
  n_frame_at : NoAttr K C "frame_at"
  n_tail_at : NoAttr K C "tail_at"
  n_told : NoAttr K C "told"
  len : mg "len" = none
  max : mg "max" = none
  min : mg "min" = none
  range : mg "range" = none
  g_HIGHEST_NAME : ∃ t, mg "HIGHEST_NAME" = some (Value.int (2047) t)
  g_MOST_BYTES : ∃ t, mg "MOST_BYTES" = some (Value.int (8) t)
  g_NAME_BITS : ∃ t, mg "NAME_BITS" = some (Value.int (11) t)
  g_LENGTH_BITS : ∃ t, mg "LENGTH_BITS" = some (Value.int (4) t)
  g_BYTE_BITS : ∃ t, mg "BYTE_BITS" = some (Value.int (8) t)
  g_SUM_BITS : ∃ t, mg "SUM_BITS" = some (Value.int (15) t)
  g_RANK_BITS : ∃ t, mg "RANK_BITS" = some (Value.int (12) t)
  g_LENGTH_AT : ∃ t, mg "LENGTH_AT" = some (Value.int (15) t)
  g_HEAD_BITS : ∃ t, mg "HEAD_BITS" = some (Value.int (19) t)
  g_SUM_POLYNOMIAL : ∃ t, mg "SUM_POLYNOMIAL" = some (Value.int (17817) t)
  g_SUM_MASK : ∃ t, mg "SUM_MASK" = some (Value.int (32767) t)
  g_MOST_ALIKE : ∃ t, mg "MOST_ALIKE" = some (Value.int (5) t)
  g_IDLE : ∃ t, mg "IDLE" = some (Value.int (0) t)
  g_IN_FRAME : ∃ t, mg "IN_FRAME" = some (Value.int (1) t)
  g_IN_TAIL : ∃ t, mg "IN_TAIL" = some (Value.int (2) t)
  g_TELLING : ∃ t, mg "TELLING" = some (Value.int (3) t)
  g_WAITING : ∃ t, mg "WAITING" = some (Value.int (4) t)
  g_OFF : ∃ t, mg "OFF" = some (Value.int (5) t)
  g_CONFIRMING : ∃ t, mg "CONFIRMING" = some (Value.int (1) t)
  g_SUM_IS_JUDGED : ∃ t, mg "SUM_IS_JUDGED" = some (Value.int (2) t)
  g_LAST_OF_TAIL : ∃ t, mg "LAST_OF_TAIL" = some (Value.int (9) t)
  g_ONES_OF_TAIL : ∃ t, mg "ONES_OF_TAIL" = some (Value.int (8) t)
  g_ONES_UNTIL_IDLE : ∃ t, mg "ONES_UNTIL_IDLE" = some (Value.int (11) t)
  g_BITS_OF_TELLING : ∃ t, mg "BITS_OF_TELLING" = some (Value.int (6) t)
  g_SENDER_ERROR : ∃ t, mg "SENDER_ERROR" = some (Value.int (8) t)
  g_SENDER_IS_OFF : ∃ t, mg "SENDER_IS_OFF" = some (Value.int (256) t)
  g_HEARER_ERROR : ∃ t, mg "HEARER_ERROR" = some (Value.int (1) t)
  g_MOST_HEARER_ERRORS : ∃ t, mg "MOST_HEARER_ERRORS" = some (Value.int (127) t)
  g_DONE : ∃ t, mg "DONE" = some (Value.int (0) t)
  g_GOT_FRAME : ∃ t, mg "GOT_FRAME" = some (Value.int (1) t)
  g_OWN_IS_THROUGH : ∃ t, mg "OWN_IS_THROUGH" = some (Value.int (2) t)
  g_ERROR : ∃ t, mg "ERROR" = some (Value.int (3) t)
  g_ANOTHER_WINS : ∃ t, mg "ANOTHER_WINS" = some (Value.int (4) t)
  g_NOW_OFF : ∃ t, mg "NOW_OFF" = some (Value.int (5) t)
  g_WANTS_ONE_ALREADY : ∃ t, mg "WANTS_ONE_ALREADY" = some (Value.int (-1) t)
  g_GOT_NONE : ∃ t, mg "GOT_NONE" = some (Value.int (-1) t)
  g_OUT_OF_RANGE : ∃ t, mg "OUT_OF_RANGE" = some (Value.int (-2) t)
  g_COUNT_SENDER_ERRORS : ∃ t, mg "COUNT_SENDER_ERRORS" = some (Value.int (0) t)
  g_COUNT_HEARER_ERRORS : ∃ t, mg "COUNT_HEARER_ERRORS" = some (Value.int (1) t)
  g_COUNT_STATE : ∃ t, mg "COUNT_STATE" = some (Value.int (2) t)
  g_BEGIN : ∃ t, mg "BEGIN" = some (Value.int (0) t)
  g_SEND : ∃ t, mg "SEND" = some (Value.int (1) t)
  g_OUT : ∃ t, mg "OUT" = some (Value.int (2) t)
  g_HEAR : ∃ t, mg "HEAR" = some (Value.int (3) t)
  g_LOOK : ∃ t, mg "LOOK" = some (Value.int (4) t)
  g_COUNT : ∃ t, mg "COUNT" = some (Value.int (5) t)
  g_SEND_HEAD : ∃ t, mg "SEND_HEAD" = some (Value.int (4) t)
  f_may_be_sent : Addr
  fd_may_be_sent : FuncData
  d_may_be_sent : Df K mg "may_be_sent" s_may_be_sent ["name", "length"] f_may_be_sent fd_may_be_sent
  f_bits_of : Addr
  fd_bits_of : FuncData
  d_bits_of : Df K mg "bits_of" s_bits_of ["number", "width"] f_bits_of fd_bits_of
  f_number_of : Addr
  fd_number_of : FuncData
  d_number_of : Df K mg "number_of" s_number_of ["bits"] f_number_of fd_number_of
  f_sum_with : Addr
  fd_sum_with : FuncData
  d_sum_with : Df K mg "sum_with" s_sum_with ["total", "bit"] f_sum_with fd_sum_with
  f_sum_of : Addr
  fd_sum_of : FuncData
  d_sum_of : Df K mg "sum_of" s_sum_of ["bits"] f_sum_of fd_sum_of
  f_frame_bits : Addr
  fd_frame_bits : FuncData
  d_frame_bits : Df K mg "frame_bits" s_frame_bits ["name", "data"] f_frame_bits fd_frame_bits
  f_stuffed : Addr
  fd_stuffed : FuncData
  d_stuffed : Df K mg "stuffed" s_stuffed ["bits"] f_stuffed fd_stuffed
  f_hinit : Addr
  fd_hinit : FuncData
  d_hinit : Mf K HC "__init__" "HeardFrame.__init__" s_hinit ["self"] f_hinit fd_hinit
  f_take : Addr
  fd_take : FuncData
  d_take : Mf K HC "take" "HeardFrame.take" s_take ["self", "bit"] f_take fd_take
  f_may_go_on : Addr
  fd_may_go_on : FuncData
  d_may_go_on : Mf K HC "may_go_on" "HeardFrame.may_go_on" s_may_go_on ["self"] f_may_go_on fd_may_go_on
  f_is_ranked : Addr
  fd_is_ranked : FuncData
  d_is_ranked : Mf K HC "is_ranked" "HeardFrame.is_ranked" s_is_ranked ["self"] f_is_ranked fd_is_ranked
  f_is_whole : Addr
  fd_is_whole : FuncData
  d_is_whole : Mf K HC "is_whole" "HeardFrame.is_whole" s_is_whole ["self"] f_is_whole fd_is_whole
  f_sum_is_right : Addr
  fd_sum_is_right : FuncData
  d_sum_is_right : Mf K HC "sum_is_right" "HeardFrame.sum_is_right" s_sum_is_right ["self"] f_sum_is_right fd_sum_is_right
  f_length : Addr
  fd_length : FuncData
  d_length : Mf K HC "length" "HeardFrame.length" s_length ["self"] f_length fd_length
  f_sum_at : Addr
  fd_sum_at : FuncData
  d_sum_at : Mf K HC "sum_at" "HeardFrame.sum_at" s_sum_at ["self"] f_sum_at fd_sum_at
  f_contents : Addr
  fd_contents : FuncData
  d_contents : Mf K HC "contents" "HeardFrame.contents" s_contents ["self"] f_contents fd_contents
  f_init : Addr
  fd_init : FuncData
  d_init : Mf K C "__init__" "Node.__init__" s_init ["self"] f_init fd_init
  f_begin : Addr
  fd_begin : FuncData
  d_begin : Mf K C "begin" "Node.begin" s_begin ["self"] f_begin fd_begin
  f_send : Addr
  fd_send : FuncData
  d_send : Mf K C "send" "Node.send" s_send ["self", "name", "length", "data"] f_send fd_send
  f_out : Addr
  fd_out : FuncData
  d_out : Mf K C "out" "Node.out" s_out ["self"] f_out fd_out
  f_confirms : Addr
  fd_confirms : FuncData
  d_confirms : Mf K C "confirms" "Node.confirms" s_confirms ["self"] f_confirms fd_confirms
  f_hear : Addr
  fd_hear : FuncData
  d_hear : Mf K C "hear" "Node.hear" s_hear ["self", "bit"] f_hear fd_hear
  f_hear_idle : Addr
  fd_hear_idle : FuncData
  d_hear_idle : Mf K C "hear_idle" "Node.hear_idle" s_hear_idle ["self", "bit"] f_hear_idle fd_hear_idle
  f_hear_in_frame : Addr
  fd_hear_in_frame : FuncData
  d_hear_in_frame : Mf K C "hear_in_frame" "Node.hear_in_frame" s_hear_in_frame ["self", "bit"] f_hear_in_frame fd_hear_in_frame
  f_hear_in_tail : Addr
  fd_hear_in_tail : FuncData
  d_hear_in_tail : Mf K C "hear_in_tail" "Node.hear_in_tail" s_hear_in_tail ["self", "bit"] f_hear_in_tail fd_hear_in_tail
  f_fits_tail : Addr
  fd_fits_tail : FuncData
  d_fits_tail : Mf K C "fits_tail" "Node.fits_tail" s_fits_tail ["self", "bit"] f_fits_tail fd_fits_tail
  f_end_frame : Addr
  fd_end_frame : FuncData
  d_end_frame : Mf K C "end_frame" "Node.end_frame" s_end_frame ["self"] f_end_frame fd_end_frame
  f_fail : Addr
  fd_fail : FuncData
  d_fail : Mf K C "fail" "Node.fail" s_fail ["self"] f_fail fd_fail
  f_hear_telling : Addr
  fd_hear_telling : FuncData
  d_hear_telling : Mf K C "hear_telling" "Node.hear_telling" s_hear_telling ["self"] f_hear_telling fd_hear_telling
  f_hear_waiting : Addr
  fd_hear_waiting : FuncData
  d_hear_waiting : Mf K C "hear_waiting" "Node.hear_waiting" s_hear_waiting ["self", "bit"] f_hear_waiting fd_hear_waiting
  f_look : Addr
  fd_look : FuncData
  d_look : Mf K C "look" "Node.look" s_look ["self"] f_look fd_look
  f_counted : Addr
  fd_counted : FuncData
  d_counted : Mf K C "counted" "Node.counted" s_counted ["self", "what"] f_counted fd_counted
  f_answers : Addr
  fd_answers : FuncData
  d_answers : Df K mg "answers" s_answers ["calls"] f_answers fd_answers
  f_end_of_call : Addr
  fd_end_of_call : FuncData
  d_end_of_call : Df K mg "end_of_call" s_end_of_call ["calls", "start"] f_end_of_call fd_end_of_call
  f_answer_to : Addr
  fd_answer_to : FuncData
  d_answer_to : Df K mg "answer_to" s_answer_to ["node", "call"] f_answer_to fd_answer_to
  makesH : Mk K HC f_hinit
  makes : Mk K C f_init
theorem env_mk {K : PySem.W.Frag} {h : Heap} {mg : Str → Option Value} {fa HC C f1 f2 f3 f4 f5 f6 f7 f8 f9 f10 f11 f12 f13 f14 f15 f16 f17 f18 f19 f20 f21 f22 f23 f24 f25 f26 f27 f28 f29 f30 f31 f32 f33 f34 f35 : Addr} (X : K.In h) (G : h.Ns mainGlobals mg) (hfa : mg "answers" = some (.ref fa))
    {od1 an1 od2 an2 od3 an3 od4 an4 od5 an5 od6 an6 od7 an7 od8 an8 od9 an9 od10 an10 od11 an11 od12 an12 od13 an13 od14 an14 od15 an15 od16 an16 od17 an17 od18 an18 od19 an19 od20 an20 od21 an21 od22 an22 od23 an23 od24 an24 od25 an25 od26 an26 od27 an27 od28 an28 od29 an29 od30 an30 od31 an31 od32 an32 od33 an33 od34 an34 od35 an35 : Option Addr} {sl1 sl2 sl3 sl4 sl5 sl6 sl7 sl8 sl9 sl10 sl11 sl12 sl13 sl14 sl15 sl16 sl17 sl18 sl19 sl20 sl21 sl22 sl23 sl24 sl25 sl26 sl27 sl28 sl29 sl30 sl31 sl32 sl33 sl34 sl35 : Array (Option Value)} {oc1 kV1 dc1 pm1 cd1 ct1 oc2 kV2 dc2 pm2 cd2 ct2 oc3 kV3 dc3 pm3 cd3 ct3 oc4 kV4 dc4 pm4 cd4 ct4 oc5 kV5 dc5 pm5 cd5 ct5 oc6 kV6 dc6 pm6 cd6 ct6 oc7 kV7 dc7 pm7 cd7 ct7 oc8 kV8 dc8 pm8 cd8 ct8 oc9 kV9 dc9 pm9 cd9 ct9 oc10 kV10 dc10 pm10 cd10 ct10 oc11 kV11 dc11 pm11 cd11 ct11 oc12 kV12 dc12 pm12 cd12 ct12 oc13 kV13 dc13 pm13 cd13 ct13 oc14 kV14 dc14 pm14 cd14 ct14 oc15 kV15 dc15 pm15 cd15 ct15 oc16 kV16 dc16 pm16 cd16 ct16 oc17 kV17 dc17 pm17 cd17 ct17 oc18 kV18 dc18 pm18 cd18 ct18 oc19 kV19 dc19 pm19 cd19 ct19 oc20 kV20 dc20 pm20 cd20 ct20 oc21 kV21 dc21 pm21 cd21 ct21 oc22 kV22 dc22 pm22 cd22 ct22 oc23 kV23 dc23 pm23 cd23 ct23 oc24 kV24 dc24 pm24 cd24 ct24 oc25 kV25 dc25 pm25 cd25 ct25 oc26 kV26 dc26 pm26 cd26 ct26 oc27 kV27 dc27 pm27 cd27 ct27 oc28 kV28 dc28 pm28 cd28 ct28 oc29 kV29 dc29 pm29 cd29 ct29 oc30 kV30 dc30 pm30 cd30 ct30 oc31 kV31 dc31 pm31 cd31 ct31 oc32 kV32 dc32 pm32 cd32 ct32 oc33 kV33 dc33 pm33 cd33 ct33 oc34 kV34 dc34 pm34 cd34 ct34 oc35 kV35 dc35 pm35 cd35 ct35 : Value}
    {t_HIGHEST_NAME t_MOST_BYTES t_NAME_BITS t_LENGTH_BITS t_BYTE_BITS t_SUM_BITS t_RANK_BITS t_LENGTH_AT t_HEAD_BITS t_SUM_POLYNOMIAL t_SUM_MASK t_MOST_ALIKE t_IDLE t_IN_FRAME t_IN_TAIL t_TELLING t_WAITING t_OFF t_CONFIRMING t_SUM_IS_JUDGED t_LAST_OF_TAIL t_ONES_OF_TAIL t_ONES_UNTIL_IDLE t_BITS_OF_TELLING t_SENDER_ERROR t_SENDER_IS_OFF t_HEARER_ERROR t_MOST_HEARER_ERRORS t_DONE t_GOT_FRAME t_OWN_IS_THROUGH t_ERROR t_ANOTHER_WINS t_NOW_OFF t_WANTS_ONE_ALREADY t_GOT_NONE t_OUT_OF_RANGE t_COUNT_SENDER_ERRORS t_COUNT_HEARER_ERRORS t_COUNT_STATE t_BEGIN t_SEND t_OUT t_HEAR t_LOOK t_COUNT t_SEND_HEAD : Tok}
    (aHC : PySem.W.nsIn K mainGlobals "HeardFrame" = some (some (.ref HC)))
    (aC : PySem.W.nsIn K mainGlobals "Node" = some (some (.ref C)))
    (a1 : PySem.W.nsIn K mainGlobals "may_be_sent" = some (some (.ref f1)))
    (l1 : K.lookup f1 = some ⟨oc1, od1, .func (PySem.W.fnOf "may_be_sent" "may_be_sent" (defArgs s_may_be_sent) (defBody s_may_be_sent) (defScope s_may_be_sent) .none kV1 dc1 pm1 an1 cd1 ct1), sl1⟩) (c1 : PySem.W.codeIn K cd1 "may_be_sent" = true) (k1 : PySem.W.keepIn K (.ref f1) = true)
    (a2 : PySem.W.nsIn K mainGlobals "bits_of" = some (some (.ref f2)))
    (l2 : K.lookup f2 = some ⟨oc2, od2, .func (PySem.W.fnOf "bits_of" "bits_of" (defArgs s_bits_of) (defBody s_bits_of) (defScope s_bits_of) .none kV2 dc2 pm2 an2 cd2 ct2), sl2⟩) (c2 : PySem.W.codeIn K cd2 "bits_of" = true) (k2 : PySem.W.keepIn K (.ref f2) = true)
    (a3 : PySem.W.nsIn K mainGlobals "number_of" = some (some (.ref f3)))
    (l3 : K.lookup f3 = some ⟨oc3, od3, .func (PySem.W.fnOf "number_of" "number_of" (defArgs s_number_of) (defBody s_number_of) (defScope s_number_of) .none kV3 dc3 pm3 an3 cd3 ct3), sl3⟩) (c3 : PySem.W.codeIn K cd3 "number_of" = true) (k3 : PySem.W.keepIn K (.ref f3) = true)
    (a4 : PySem.W.nsIn K mainGlobals "sum_with" = some (some (.ref f4)))
    (l4 : K.lookup f4 = some ⟨oc4, od4, .func (PySem.W.fnOf "sum_with" "sum_with" (defArgs s_sum_with) (defBody s_sum_with) (defScope s_sum_with) .none kV4 dc4 pm4 an4 cd4 ct4), sl4⟩) (c4 : PySem.W.codeIn K cd4 "sum_with" = true) (k4 : PySem.W.keepIn K (.ref f4) = true)
    (a5 : PySem.W.nsIn K mainGlobals "sum_of" = some (some (.ref f5)))
    (l5 : K.lookup f5 = some ⟨oc5, od5, .func (PySem.W.fnOf "sum_of" "sum_of" (defArgs s_sum_of) (defBody s_sum_of) (defScope s_sum_of) .none kV5 dc5 pm5 an5 cd5 ct5), sl5⟩) (c5 : PySem.W.codeIn K cd5 "sum_of" = true) (k5 : PySem.W.keepIn K (.ref f5) = true)
    (a6 : PySem.W.nsIn K mainGlobals "frame_bits" = some (some (.ref f6)))
    (l6 : K.lookup f6 = some ⟨oc6, od6, .func (PySem.W.fnOf "frame_bits" "frame_bits" (defArgs s_frame_bits) (defBody s_frame_bits) (defScope s_frame_bits) .none kV6 dc6 pm6 an6 cd6 ct6), sl6⟩) (c6 : PySem.W.codeIn K cd6 "frame_bits" = true) (k6 : PySem.W.keepIn K (.ref f6) = true)
    (a7 : PySem.W.nsIn K mainGlobals "stuffed" = some (some (.ref f7)))
    (l7 : K.lookup f7 = some ⟨oc7, od7, .func (PySem.W.fnOf "stuffed" "stuffed" (defArgs s_stuffed) (defBody s_stuffed) (defScope s_stuffed) .none kV7 dc7 pm7 an7 cd7 ct7), sl7⟩) (c7 : PySem.W.codeIn K cd7 "stuffed" = true) (k7 : PySem.W.keepIn K (.ref f7) = true)
    (a8 : PySem.W.findIn K (.ref HC) "__init__" = some (some (.ref f8))) (i8 : PySem.W.isFn K (.ref f8) = true)
    (l8 : K.lookup f8 = some ⟨oc8, od8, .func (PySem.W.fnOf "__init__" "HeardFrame.__init__" (defArgs s_hinit) (defBody s_hinit) (defScope s_hinit) .none kV8 dc8 pm8 an8 cd8 ct8), sl8⟩) (c8 : PySem.W.codeIn K cd8 "HeardFrame.__init__" = true) (k8 : PySem.W.keepIn K (.ref f8) = true)
    (a9 : PySem.W.findIn K (.ref HC) "take" = some (some (.ref f9))) (i9 : PySem.W.isFn K (.ref f9) = true)
    (l9 : K.lookup f9 = some ⟨oc9, od9, .func (PySem.W.fnOf "take" "HeardFrame.take" (defArgs s_take) (defBody s_take) (defScope s_take) .none kV9 dc9 pm9 an9 cd9 ct9), sl9⟩) (c9 : PySem.W.codeIn K cd9 "HeardFrame.take" = true) (k9 : PySem.W.keepIn K (.ref f9) = true)
    (a10 : PySem.W.findIn K (.ref HC) "may_go_on" = some (some (.ref f10))) (i10 : PySem.W.isFn K (.ref f10) = true)
    (l10 : K.lookup f10 = some ⟨oc10, od10, .func (PySem.W.fnOf "may_go_on" "HeardFrame.may_go_on" (defArgs s_may_go_on) (defBody s_may_go_on) (defScope s_may_go_on) .none kV10 dc10 pm10 an10 cd10 ct10), sl10⟩) (c10 : PySem.W.codeIn K cd10 "HeardFrame.may_go_on" = true) (k10 : PySem.W.keepIn K (.ref f10) = true)
    (a11 : PySem.W.findIn K (.ref HC) "is_ranked" = some (some (.ref f11))) (i11 : PySem.W.isFn K (.ref f11) = true)
    (l11 : K.lookup f11 = some ⟨oc11, od11, .func (PySem.W.fnOf "is_ranked" "HeardFrame.is_ranked" (defArgs s_is_ranked) (defBody s_is_ranked) (defScope s_is_ranked) .none kV11 dc11 pm11 an11 cd11 ct11), sl11⟩) (c11 : PySem.W.codeIn K cd11 "HeardFrame.is_ranked" = true) (k11 : PySem.W.keepIn K (.ref f11) = true)
    (a12 : PySem.W.findIn K (.ref HC) "is_whole" = some (some (.ref f12))) (i12 : PySem.W.isFn K (.ref f12) = true)
    (l12 : K.lookup f12 = some ⟨oc12, od12, .func (PySem.W.fnOf "is_whole" "HeardFrame.is_whole" (defArgs s_is_whole) (defBody s_is_whole) (defScope s_is_whole) .none kV12 dc12 pm12 an12 cd12 ct12), sl12⟩) (c12 : PySem.W.codeIn K cd12 "HeardFrame.is_whole" = true) (k12 : PySem.W.keepIn K (.ref f12) = true)
    (a13 : PySem.W.findIn K (.ref HC) "sum_is_right" = some (some (.ref f13))) (i13 : PySem.W.isFn K (.ref f13) = true)
    (l13 : K.lookup f13 = some ⟨oc13, od13, .func (PySem.W.fnOf "sum_is_right" "HeardFrame.sum_is_right" (defArgs s_sum_is_right) (defBody s_sum_is_right) (defScope s_sum_is_right) .none kV13 dc13 pm13 an13 cd13 ct13), sl13⟩) (c13 : PySem.W.codeIn K cd13 "HeardFrame.sum_is_right" = true) (k13 : PySem.W.keepIn K (.ref f13) = true)
    (a14 : PySem.W.findIn K (.ref HC) "length" = some (some (.ref f14))) (i14 : PySem.W.isFn K (.ref f14) = true)
    (l14 : K.lookup f14 = some ⟨oc14, od14, .func (PySem.W.fnOf "length" "HeardFrame.length" (defArgs s_length) (defBody s_length) (defScope s_length) .none kV14 dc14 pm14 an14 cd14 ct14), sl14⟩) (c14 : PySem.W.codeIn K cd14 "HeardFrame.length" = true) (k14 : PySem.W.keepIn K (.ref f14) = true)
    (a15 : PySem.W.findIn K (.ref HC) "sum_at" = some (some (.ref f15))) (i15 : PySem.W.isFn K (.ref f15) = true)
    (l15 : K.lookup f15 = some ⟨oc15, od15, .func (PySem.W.fnOf "sum_at" "HeardFrame.sum_at" (defArgs s_sum_at) (defBody s_sum_at) (defScope s_sum_at) .none kV15 dc15 pm15 an15 cd15 ct15), sl15⟩) (c15 : PySem.W.codeIn K cd15 "HeardFrame.sum_at" = true) (k15 : PySem.W.keepIn K (.ref f15) = true)
    (a16 : PySem.W.findIn K (.ref HC) "contents" = some (some (.ref f16))) (i16 : PySem.W.isFn K (.ref f16) = true)
    (l16 : K.lookup f16 = some ⟨oc16, od16, .func (PySem.W.fnOf "contents" "HeardFrame.contents" (defArgs s_contents) (defBody s_contents) (defScope s_contents) .none kV16 dc16 pm16 an16 cd16 ct16), sl16⟩) (c16 : PySem.W.codeIn K cd16 "HeardFrame.contents" = true) (k16 : PySem.W.keepIn K (.ref f16) = true)
    (a17 : PySem.W.findIn K (.ref C) "__init__" = some (some (.ref f17))) (i17 : PySem.W.isFn K (.ref f17) = true)
    (l17 : K.lookup f17 = some ⟨oc17, od17, .func (PySem.W.fnOf "__init__" "Node.__init__" (defArgs s_init) (defBody s_init) (defScope s_init) .none kV17 dc17 pm17 an17 cd17 ct17), sl17⟩) (c17 : PySem.W.codeIn K cd17 "Node.__init__" = true) (k17 : PySem.W.keepIn K (.ref f17) = true)
    (a18 : PySem.W.findIn K (.ref C) "begin" = some (some (.ref f18))) (i18 : PySem.W.isFn K (.ref f18) = true)
    (l18 : K.lookup f18 = some ⟨oc18, od18, .func (PySem.W.fnOf "begin" "Node.begin" (defArgs s_begin) (defBody s_begin) (defScope s_begin) .none kV18 dc18 pm18 an18 cd18 ct18), sl18⟩) (c18 : PySem.W.codeIn K cd18 "Node.begin" = true) (k18 : PySem.W.keepIn K (.ref f18) = true)
    (a19 : PySem.W.findIn K (.ref C) "send" = some (some (.ref f19))) (i19 : PySem.W.isFn K (.ref f19) = true)
    (l19 : K.lookup f19 = some ⟨oc19, od19, .func (PySem.W.fnOf "send" "Node.send" (defArgs s_send) (defBody s_send) (defScope s_send) .none kV19 dc19 pm19 an19 cd19 ct19), sl19⟩) (c19 : PySem.W.codeIn K cd19 "Node.send" = true) (k19 : PySem.W.keepIn K (.ref f19) = true)
    (a20 : PySem.W.findIn K (.ref C) "out" = some (some (.ref f20))) (i20 : PySem.W.isFn K (.ref f20) = true)
    (l20 : K.lookup f20 = some ⟨oc20, od20, .func (PySem.W.fnOf "out" "Node.out" (defArgs s_out) (defBody s_out) (defScope s_out) .none kV20 dc20 pm20 an20 cd20 ct20), sl20⟩) (c20 : PySem.W.codeIn K cd20 "Node.out" = true) (k20 : PySem.W.keepIn K (.ref f20) = true)
    (a21 : PySem.W.findIn K (.ref C) "confirms" = some (some (.ref f21))) (i21 : PySem.W.isFn K (.ref f21) = true)
    (l21 : K.lookup f21 = some ⟨oc21, od21, .func (PySem.W.fnOf "confirms" "Node.confirms" (defArgs s_confirms) (defBody s_confirms) (defScope s_confirms) .none kV21 dc21 pm21 an21 cd21 ct21), sl21⟩) (c21 : PySem.W.codeIn K cd21 "Node.confirms" = true) (k21 : PySem.W.keepIn K (.ref f21) = true)
    (a22 : PySem.W.findIn K (.ref C) "hear" = some (some (.ref f22))) (i22 : PySem.W.isFn K (.ref f22) = true)
    (l22 : K.lookup f22 = some ⟨oc22, od22, .func (PySem.W.fnOf "hear" "Node.hear" (defArgs s_hear) (defBody s_hear) (defScope s_hear) .none kV22 dc22 pm22 an22 cd22 ct22), sl22⟩) (c22 : PySem.W.codeIn K cd22 "Node.hear" = true) (k22 : PySem.W.keepIn K (.ref f22) = true)
    (a23 : PySem.W.findIn K (.ref C) "hear_idle" = some (some (.ref f23))) (i23 : PySem.W.isFn K (.ref f23) = true)
    (l23 : K.lookup f23 = some ⟨oc23, od23, .func (PySem.W.fnOf "hear_idle" "Node.hear_idle" (defArgs s_hear_idle) (defBody s_hear_idle) (defScope s_hear_idle) .none kV23 dc23 pm23 an23 cd23 ct23), sl23⟩) (c23 : PySem.W.codeIn K cd23 "Node.hear_idle" = true) (k23 : PySem.W.keepIn K (.ref f23) = true)
    (a24 : PySem.W.findIn K (.ref C) "hear_in_frame" = some (some (.ref f24))) (i24 : PySem.W.isFn K (.ref f24) = true)
    (l24 : K.lookup f24 = some ⟨oc24, od24, .func (PySem.W.fnOf "hear_in_frame" "Node.hear_in_frame" (defArgs s_hear_in_frame) (defBody s_hear_in_frame) (defScope s_hear_in_frame) .none kV24 dc24 pm24 an24 cd24 ct24), sl24⟩) (c24 : PySem.W.codeIn K cd24 "Node.hear_in_frame" = true) (k24 : PySem.W.keepIn K (.ref f24) = true)
    (a25 : PySem.W.findIn K (.ref C) "hear_in_tail" = some (some (.ref f25))) (i25 : PySem.W.isFn K (.ref f25) = true)
    (l25 : K.lookup f25 = some ⟨oc25, od25, .func (PySem.W.fnOf "hear_in_tail" "Node.hear_in_tail" (defArgs s_hear_in_tail) (defBody s_hear_in_tail) (defScope s_hear_in_tail) .none kV25 dc25 pm25 an25 cd25 ct25), sl25⟩) (c25 : PySem.W.codeIn K cd25 "Node.hear_in_tail" = true) (k25 : PySem.W.keepIn K (.ref f25) = true)
    (a26 : PySem.W.findIn K (.ref C) "fits_tail" = some (some (.ref f26))) (i26 : PySem.W.isFn K (.ref f26) = true)
    (l26 : K.lookup f26 = some ⟨oc26, od26, .func (PySem.W.fnOf "fits_tail" "Node.fits_tail" (defArgs s_fits_tail) (defBody s_fits_tail) (defScope s_fits_tail) .none kV26 dc26 pm26 an26 cd26 ct26), sl26⟩) (c26 : PySem.W.codeIn K cd26 "Node.fits_tail" = true) (k26 : PySem.W.keepIn K (.ref f26) = true)
    (a27 : PySem.W.findIn K (.ref C) "end_frame" = some (some (.ref f27))) (i27 : PySem.W.isFn K (.ref f27) = true)
    (l27 : K.lookup f27 = some ⟨oc27, od27, .func (PySem.W.fnOf "end_frame" "Node.end_frame" (defArgs s_end_frame) (defBody s_end_frame) (defScope s_end_frame) .none kV27 dc27 pm27 an27 cd27 ct27), sl27⟩) (c27 : PySem.W.codeIn K cd27 "Node.end_frame" = true) (k27 : PySem.W.keepIn K (.ref f27) = true)
    (a28 : PySem.W.findIn K (.ref C) "fail" = some (some (.ref f28))) (i28 : PySem.W.isFn K (.ref f28) = true)
    (l28 : K.lookup f28 = some ⟨oc28, od28, .func (PySem.W.fnOf "fail" "Node.fail" (defArgs s_fail) (defBody s_fail) (defScope s_fail) .none kV28 dc28 pm28 an28 cd28 ct28), sl28⟩) (c28 : PySem.W.codeIn K cd28 "Node.fail" = true) (k28 : PySem.W.keepIn K (.ref f28) = true)
    (a29 : PySem.W.findIn K (.ref C) "hear_telling" = some (some (.ref f29))) (i29 : PySem.W.isFn K (.ref f29) = true)
    (l29 : K.lookup f29 = some ⟨oc29, od29, .func (PySem.W.fnOf "hear_telling" "Node.hear_telling" (defArgs s_hear_telling) (defBody s_hear_telling) (defScope s_hear_telling) .none kV29 dc29 pm29 an29 cd29 ct29), sl29⟩) (c29 : PySem.W.codeIn K cd29 "Node.hear_telling" = true) (k29 : PySem.W.keepIn K (.ref f29) = true)
    (a30 : PySem.W.findIn K (.ref C) "hear_waiting" = some (some (.ref f30))) (i30 : PySem.W.isFn K (.ref f30) = true)
    (l30 : K.lookup f30 = some ⟨oc30, od30, .func (PySem.W.fnOf "hear_waiting" "Node.hear_waiting" (defArgs s_hear_waiting) (defBody s_hear_waiting) (defScope s_hear_waiting) .none kV30 dc30 pm30 an30 cd30 ct30), sl30⟩) (c30 : PySem.W.codeIn K cd30 "Node.hear_waiting" = true) (k30 : PySem.W.keepIn K (.ref f30) = true)
    (a31 : PySem.W.findIn K (.ref C) "look" = some (some (.ref f31))) (i31 : PySem.W.isFn K (.ref f31) = true)
    (l31 : K.lookup f31 = some ⟨oc31, od31, .func (PySem.W.fnOf "look" "Node.look" (defArgs s_look) (defBody s_look) (defScope s_look) .none kV31 dc31 pm31 an31 cd31 ct31), sl31⟩) (c31 : PySem.W.codeIn K cd31 "Node.look" = true) (k31 : PySem.W.keepIn K (.ref f31) = true)
    (a32 : PySem.W.findIn K (.ref C) "counted" = some (some (.ref f32))) (i32 : PySem.W.isFn K (.ref f32) = true)
    (l32 : K.lookup f32 = some ⟨oc32, od32, .func (PySem.W.fnOf "counted" "Node.counted" (defArgs s_counted) (defBody s_counted) (defScope s_counted) .none kV32 dc32 pm32 an32 cd32 ct32), sl32⟩) (c32 : PySem.W.codeIn K cd32 "Node.counted" = true) (k32 : PySem.W.keepIn K (.ref f32) = true)
    (a33 : PySem.W.nsIn K mainGlobals "answers" = some (some (.ref f33)))
    (l33 : K.lookup f33 = some ⟨oc33, od33, .func (PySem.W.fnOf "answers" "answers" (defArgs s_answers) (defBody s_answers) (defScope s_answers) .none kV33 dc33 pm33 an33 cd33 ct33), sl33⟩) (c33 : PySem.W.codeIn K cd33 "answers" = true) (k33 : PySem.W.keepIn K (.ref f33) = true)
    (a34 : PySem.W.nsIn K mainGlobals "end_of_call" = some (some (.ref f34)))
    (l34 : K.lookup f34 = some ⟨oc34, od34, .func (PySem.W.fnOf "end_of_call" "end_of_call" (defArgs s_end_of_call) (defBody s_end_of_call) (defScope s_end_of_call) .none kV34 dc34 pm34 an34 cd34 ct34), sl34⟩) (c34 : PySem.W.codeIn K cd34 "end_of_call" = true) (k34 : PySem.W.keepIn K (.ref f34) = true)
    (a35 : PySem.W.nsIn K mainGlobals "answer_to" = some (some (.ref f35)))
    (l35 : K.lookup f35 = some ⟨oc35, od35, .func (PySem.W.fnOf "answer_to" "answer_to" (defArgs s_answer_to) (defBody s_answer_to) (defScope s_answer_to) .none kV35 dc35 pm35 an35 cd35 ct35), sl35⟩) (c35 : PySem.W.codeIn K cd35 "answer_to" = true) (k35 : PySem.W.keepIn K (.ref f35) = true)
    (pgH : PySem.W.plainGet K HC Str.empty = true) (hdH : PySem.W.hasDictIn K HC = true) (poH : PySem.W.plainOver K HC = true) (saH : PySem.W.findIn K (.ref HC) "__setattr__" = some (some (.builtin "object.__setattr__"))) (mkH : PySem.W.makesIn K HC = true) (kcH : PySem.W.keepIn K (.ref HC) = true)
    (pg : PySem.W.plainGet K C Str.empty = true) (hd : PySem.W.hasDictIn K C = true) (po : PySem.W.plainOver K C = true) (sa : PySem.W.findIn K (.ref C) "__setattr__" = some (some (.builtin "object.__setattr__"))) (mk : PySem.W.makesIn K C = true) (kc : PySem.W.keepIn K (.ref C) = true)
    (n_bits : PySem.W.findIn K (.ref HC) "bits" = some none)
    (n_remainder : PySem.W.findIn K (.ref HC) "remainder" = some none)
    (n_last : PySem.W.findIn K (.ref HC) "last" = some none)
    (n_alike : PySem.W.findIn K (.ref HC) "alike" = some none)
    (n_state : PySem.W.findIn K (.ref C) "state" = some none)
    (n_ones : PySem.W.findIn K (.ref C) "ones" = some none)
    (n_wanted : PySem.W.findIn K (.ref C) "wanted" = some none)
    (n_got : PySem.W.findIn K (.ref C) "got" = some none)
    (n_sender_errors : PySem.W.findIn K (.ref C) "sender_errors" = some none)
    (n_hearer_errors : PySem.W.findIn K (.ref C) "hearer_errors" = some none)
    (n_is_sender : PySem.W.findIn K (.ref C) "is_sender" = some none)
    (n_heard : PySem.W.findIn K (.ref C) "heard" = some none)
    (n_frame_at : PySem.W.findIn K (.ref C) "frame_at" = some none)
    (n_tail_at : PySem.W.findIn K (.ref C) "tail_at" = some none)
    (n_told : PySem.W.findIn K (.ref C) "told" = some none)
    (z_len : PySem.W.nsIn K mainGlobals "len" = some none)
    (z_max : PySem.W.nsIn K mainGlobals "max" = some none)
    (z_min : PySem.W.nsIn K mainGlobals "min" = some none)
    (z_range : PySem.W.nsIn K mainGlobals "range" = some none)
    (g_HIGHEST_NAME : PySem.W.nsIn K mainGlobals "HIGHEST_NAME" = some (some (.int (2047) t_HIGHEST_NAME)))
    (g_MOST_BYTES : PySem.W.nsIn K mainGlobals "MOST_BYTES" = some (some (.int (8) t_MOST_BYTES)))
    (g_NAME_BITS : PySem.W.nsIn K mainGlobals "NAME_BITS" = some (some (.int (11) t_NAME_BITS)))
    (g_LENGTH_BITS : PySem.W.nsIn K mainGlobals "LENGTH_BITS" = some (some (.int (4) t_LENGTH_BITS)))
    (g_BYTE_BITS : PySem.W.nsIn K mainGlobals "BYTE_BITS" = some (some (.int (8) t_BYTE_BITS)))
    (g_SUM_BITS : PySem.W.nsIn K mainGlobals "SUM_BITS" = some (some (.int (15) t_SUM_BITS)))
    (g_RANK_BITS : PySem.W.nsIn K mainGlobals "RANK_BITS" = some (some (.int (12) t_RANK_BITS)))
    (g_LENGTH_AT : PySem.W.nsIn K mainGlobals "LENGTH_AT" = some (some (.int (15) t_LENGTH_AT)))
    (g_HEAD_BITS : PySem.W.nsIn K mainGlobals "HEAD_BITS" = some (some (.int (19) t_HEAD_BITS)))
    (g_SUM_POLYNOMIAL : PySem.W.nsIn K mainGlobals "SUM_POLYNOMIAL" = some (some (.int (17817) t_SUM_POLYNOMIAL)))
    (g_SUM_MASK : PySem.W.nsIn K mainGlobals "SUM_MASK" = some (some (.int (32767) t_SUM_MASK)))
    (g_MOST_ALIKE : PySem.W.nsIn K mainGlobals "MOST_ALIKE" = some (some (.int (5) t_MOST_ALIKE)))
    (g_IDLE : PySem.W.nsIn K mainGlobals "IDLE" = some (some (.int (0) t_IDLE)))
    (g_IN_FRAME : PySem.W.nsIn K mainGlobals "IN_FRAME" = some (some (.int (1) t_IN_FRAME)))
    (g_IN_TAIL : PySem.W.nsIn K mainGlobals "IN_TAIL" = some (some (.int (2) t_IN_TAIL)))
    (g_TELLING : PySem.W.nsIn K mainGlobals "TELLING" = some (some (.int (3) t_TELLING)))
    (g_WAITING : PySem.W.nsIn K mainGlobals "WAITING" = some (some (.int (4) t_WAITING)))
    (g_OFF : PySem.W.nsIn K mainGlobals "OFF" = some (some (.int (5) t_OFF)))
    (g_CONFIRMING : PySem.W.nsIn K mainGlobals "CONFIRMING" = some (some (.int (1) t_CONFIRMING)))
    (g_SUM_IS_JUDGED : PySem.W.nsIn K mainGlobals "SUM_IS_JUDGED" = some (some (.int (2) t_SUM_IS_JUDGED)))
    (g_LAST_OF_TAIL : PySem.W.nsIn K mainGlobals "LAST_OF_TAIL" = some (some (.int (9) t_LAST_OF_TAIL)))
    (g_ONES_OF_TAIL : PySem.W.nsIn K mainGlobals "ONES_OF_TAIL" = some (some (.int (8) t_ONES_OF_TAIL)))
    (g_ONES_UNTIL_IDLE : PySem.W.nsIn K mainGlobals "ONES_UNTIL_IDLE" = some (some (.int (11) t_ONES_UNTIL_IDLE)))
    (g_BITS_OF_TELLING : PySem.W.nsIn K mainGlobals "BITS_OF_TELLING" = some (some (.int (6) t_BITS_OF_TELLING)))
    (g_SENDER_ERROR : PySem.W.nsIn K mainGlobals "SENDER_ERROR" = some (some (.int (8) t_SENDER_ERROR)))
    (g_SENDER_IS_OFF : PySem.W.nsIn K mainGlobals "SENDER_IS_OFF" = some (some (.int (256) t_SENDER_IS_OFF)))
    (g_HEARER_ERROR : PySem.W.nsIn K mainGlobals "HEARER_ERROR" = some (some (.int (1) t_HEARER_ERROR)))
    (g_MOST_HEARER_ERRORS : PySem.W.nsIn K mainGlobals "MOST_HEARER_ERRORS" = some (some (.int (127) t_MOST_HEARER_ERRORS)))
    (g_DONE : PySem.W.nsIn K mainGlobals "DONE" = some (some (.int (0) t_DONE)))
    (g_GOT_FRAME : PySem.W.nsIn K mainGlobals "GOT_FRAME" = some (some (.int (1) t_GOT_FRAME)))
    (g_OWN_IS_THROUGH : PySem.W.nsIn K mainGlobals "OWN_IS_THROUGH" = some (some (.int (2) t_OWN_IS_THROUGH)))
    (g_ERROR : PySem.W.nsIn K mainGlobals "ERROR" = some (some (.int (3) t_ERROR)))
    (g_ANOTHER_WINS : PySem.W.nsIn K mainGlobals "ANOTHER_WINS" = some (some (.int (4) t_ANOTHER_WINS)))
    (g_NOW_OFF : PySem.W.nsIn K mainGlobals "NOW_OFF" = some (some (.int (5) t_NOW_OFF)))
    (g_WANTS_ONE_ALREADY : PySem.W.nsIn K mainGlobals "WANTS_ONE_ALREADY" = some (some (.int (-1) t_WANTS_ONE_ALREADY)))
    (g_GOT_NONE : PySem.W.nsIn K mainGlobals "GOT_NONE" = some (some (.int (-1) t_GOT_NONE)))
    (g_OUT_OF_RANGE : PySem.W.nsIn K mainGlobals "OUT_OF_RANGE" = some (some (.int (-2) t_OUT_OF_RANGE)))
    (g_COUNT_SENDER_ERRORS : PySem.W.nsIn K mainGlobals "COUNT_SENDER_ERRORS" = some (some (.int (0) t_COUNT_SENDER_ERRORS)))
    (g_COUNT_HEARER_ERRORS : PySem.W.nsIn K mainGlobals "COUNT_HEARER_ERRORS" = some (some (.int (1) t_COUNT_HEARER_ERRORS)))
    (g_COUNT_STATE : PySem.W.nsIn K mainGlobals "COUNT_STATE" = some (some (.int (2) t_COUNT_STATE)))
    (g_BEGIN : PySem.W.nsIn K mainGlobals "BEGIN" = some (some (.int (0) t_BEGIN)))
    (g_SEND : PySem.W.nsIn K mainGlobals "SEND" = some (some (.int (1) t_SEND)))
    (g_OUT : PySem.W.nsIn K mainGlobals "OUT" = some (some (.int (2) t_OUT)))
    (g_HEAR : PySem.W.nsIn K mainGlobals "HEAR" = some (some (.int (3) t_HEAR)))
    (g_LOOK : PySem.W.nsIn K mainGlobals "LOOK" = some (some (.int (4) t_LOOK)))
    (g_COUNT : PySem.W.nsIn K mainGlobals "COUNT" = some (some (.int (5) t_COUNT)))
    (g_SEND_HEAD : PySem.W.nsIn K mainGlobals "SEND_HEAD" = some (some (.int (4) t_SEND_HEAD)))
    : ∃ W : Env K mg, W.f_answers = fa := by
  have e := hfa.symm.trans (PySem.W.mg_of X G a33)
  cases e
  have F1 := fun_mk (st := s_may_be_sent) l1 c1 k1
  have b1 := F1.binds (ps := ["name", "length"]) fun _ _ _ _ _ _ us hl => match us, hl with | [_, _], _ => rfl
  have F2 := fun_mk (st := s_bits_of) l2 c2 k2
  have b2 := F2.binds (ps := ["number", "width"]) fun _ _ _ _ _ _ us hl => match us, hl with | [_, _], _ => rfl
  have F3 := fun_mk (st := s_number_of) l3 c3 k3
  have b3 := F3.binds (ps := ["bits"]) fun _ _ _ _ _ _ us hl => match us, hl with | [_], _ => rfl
  have F4 := fun_mk (st := s_sum_with) l4 c4 k4
  have b4 := F4.binds (ps := ["total", "bit"]) fun _ _ _ _ _ _ us hl => match us, hl with | [_, _], _ => rfl
  have F5 := fun_mk (st := s_sum_of) l5 c5 k5
  have b5 := F5.binds (ps := ["bits"]) fun _ _ _ _ _ _ us hl => match us, hl with | [_], _ => rfl
  have F6 := fun_mk (st := s_frame_bits) l6 c6 k6
  have b6 := F6.binds (ps := ["name", "data"]) fun _ _ _ _ _ _ us hl => match us, hl with | [_, _], _ => rfl
  have F7 := fun_mk (st := s_stuffed) l7 c7 k7
  have b7 := F7.binds (ps := ["bits"]) fun _ _ _ _ _ _ us hl => match us, hl with | [_], _ => rfl
  have F8 := fun_mk (st := s_hinit) l8 c8 k8
  have b8 := F8.binds (ps := ["self"]) fun _ _ _ _ _ _ us hl => match us, hl with | [_], _ => rfl
  have F9 := fun_mk (st := s_take) l9 c9 k9
  have b9 := F9.binds (ps := ["self", "bit"]) fun _ _ _ _ _ _ us hl => match us, hl with | [_, _], _ => rfl
  have F10 := fun_mk (st := s_may_go_on) l10 c10 k10
  have b10 := F10.binds (ps := ["self"]) fun _ _ _ _ _ _ us hl => match us, hl with | [_], _ => rfl
  have F11 := fun_mk (st := s_is_ranked) l11 c11 k11
  have b11 := F11.binds (ps := ["self"]) fun _ _ _ _ _ _ us hl => match us, hl with | [_], _ => rfl
  have F12 := fun_mk (st := s_is_whole) l12 c12 k12
  have b12 := F12.binds (ps := ["self"]) fun _ _ _ _ _ _ us hl => match us, hl with | [_], _ => rfl
  have F13 := fun_mk (st := s_sum_is_right) l13 c13 k13
  have b13 := F13.binds (ps := ["self"]) fun _ _ _ _ _ _ us hl => match us, hl with | [_], _ => rfl
  have F14 := fun_mk (st := s_length) l14 c14 k14
  have b14 := F14.binds (ps := ["self"]) fun _ _ _ _ _ _ us hl => match us, hl with | [_], _ => rfl
  have F15 := fun_mk (st := s_sum_at) l15 c15 k15
  have b15 := F15.binds (ps := ["self"]) fun _ _ _ _ _ _ us hl => match us, hl with | [_], _ => rfl
  have F16 := fun_mk (st := s_contents) l16 c16 k16
  have b16 := F16.binds (ps := ["self"]) fun _ _ _ _ _ _ us hl => match us, hl with | [_], _ => rfl
  have F17 := fun_mk (st := s_init) l17 c17 k17
  have b17 := F17.binds (ps := ["self"]) fun _ _ _ _ _ _ us hl => match us, hl with | [_], _ => rfl
  have F18 := fun_mk (st := s_begin) l18 c18 k18
  have b18 := F18.binds (ps := ["self"]) fun _ _ _ _ _ _ us hl => match us, hl with | [_], _ => rfl
  have F19 := fun_mk (st := s_send) l19 c19 k19
  have b19 := F19.binds (ps := ["self", "name", "length", "data"]) fun _ _ _ _ _ _ us hl => match us, hl with | [_, _, _, _], _ => rfl
  have F20 := fun_mk (st := s_out) l20 c20 k20
  have b20 := F20.binds (ps := ["self"]) fun _ _ _ _ _ _ us hl => match us, hl with | [_], _ => rfl
  have F21 := fun_mk (st := s_confirms) l21 c21 k21
  have b21 := F21.binds (ps := ["self"]) fun _ _ _ _ _ _ us hl => match us, hl with | [_], _ => rfl
  have F22 := fun_mk (st := s_hear) l22 c22 k22
  have b22 := F22.binds (ps := ["self", "bit"]) fun _ _ _ _ _ _ us hl => match us, hl with | [_, _], _ => rfl
  have F23 := fun_mk (st := s_hear_idle) l23 c23 k23
  have b23 := F23.binds (ps := ["self", "bit"]) fun _ _ _ _ _ _ us hl => match us, hl with | [_, _], _ => rfl
  have F24 := fun_mk (st := s_hear_in_frame) l24 c24 k24
  have b24 := F24.binds (ps := ["self", "bit"]) fun _ _ _ _ _ _ us hl => match us, hl with | [_, _], _ => rfl
  have F25 := fun_mk (st := s_hear_in_tail) l25 c25 k25
  have b25 := F25.binds (ps := ["self", "bit"]) fun _ _ _ _ _ _ us hl => match us, hl with | [_, _], _ => rfl
  have F26 := fun_mk (st := s_fits_tail) l26 c26 k26
  have b26 := F26.binds (ps := ["self", "bit"]) fun _ _ _ _ _ _ us hl => match us, hl with | [_, _], _ => rfl
  have F27 := fun_mk (st := s_end_frame) l27 c27 k27
  have b27 := F27.binds (ps := ["self"]) fun _ _ _ _ _ _ us hl => match us, hl with | [_], _ => rfl
  have F28 := fun_mk (st := s_fail) l28 c28 k28
  have b28 := F28.binds (ps := ["self"]) fun _ _ _ _ _ _ us hl => match us, hl with | [_], _ => rfl
  have F29 := fun_mk (st := s_hear_telling) l29 c29 k29
  have b29 := F29.binds (ps := ["self"]) fun _ _ _ _ _ _ us hl => match us, hl with | [_], _ => rfl
  have F30 := fun_mk (st := s_hear_waiting) l30 c30 k30
  have b30 := F30.binds (ps := ["self", "bit"]) fun _ _ _ _ _ _ us hl => match us, hl with | [_, _], _ => rfl
  have F31 := fun_mk (st := s_look) l31 c31 k31
  have b31 := F31.binds (ps := ["self"]) fun _ _ _ _ _ _ us hl => match us, hl with | [_], _ => rfl
  have F32 := fun_mk (st := s_counted) l32 c32 k32
  have b32 := F32.binds (ps := ["self", "what"]) fun _ _ _ _ _ _ us hl => match us, hl with | [_, _], _ => rfl
  have F33 := fun_mk (st := s_answers) l33 c33 k33
  have b33 := F33.binds (ps := ["calls"]) fun _ _ _ _ _ _ us hl => match us, hl with | [_], _ => rfl
  have F34 := fun_mk (st := s_end_of_call) l34 c34 k34
  have b34 := F34.binds (ps := ["calls", "start"]) fun _ _ _ _ _ _ us hl => match us, hl with | [_, _], _ => rfl
  have F35 := fun_mk (st := s_answer_to) l35 c35 k35
  have b35 := F35.binds (ps := ["node", "call"]) fun _ _ _ _ _ _ us hl => match us, hl with | [_, _], _ => rfl
  exact ⟨⟨HC, ⟨pgH, hdH, poH, saH⟩, PySem.W.mg_of X G aHC, C, ⟨pg, hd, po, sa⟩, PySem.W.mg_of X G aC, n_bits, n_remainder, n_last, n_alike, n_state, n_ones, n_wanted, n_got, n_sender_errors, n_hearer_errors, n_is_sender, n_heard, n_frame_at, n_tail_at, n_told, PySem.W.mg_none_of X G z_len, PySem.W.mg_none_of X G z_max, PySem.W.mg_none_of X G z_min, PySem.W.mg_none_of X G z_range, ⟨_, PySem.W.mg_of X G g_HIGHEST_NAME⟩, ⟨_, PySem.W.mg_of X G g_MOST_BYTES⟩, ⟨_, PySem.W.mg_of X G g_NAME_BITS⟩, ⟨_, PySem.W.mg_of X G g_LENGTH_BITS⟩, ⟨_, PySem.W.mg_of X G g_BYTE_BITS⟩, ⟨_, PySem.W.mg_of X G g_SUM_BITS⟩, ⟨_, PySem.W.mg_of X G g_RANK_BITS⟩, ⟨_, PySem.W.mg_of X G g_LENGTH_AT⟩, ⟨_, PySem.W.mg_of X G g_HEAD_BITS⟩, ⟨_, PySem.W.mg_of X G g_SUM_POLYNOMIAL⟩, ⟨_, PySem.W.mg_of X G g_SUM_MASK⟩, ⟨_, PySem.W.mg_of X G g_MOST_ALIKE⟩, ⟨_, PySem.W.mg_of X G g_IDLE⟩, ⟨_, PySem.W.mg_of X G g_IN_FRAME⟩, ⟨_, PySem.W.mg_of X G g_IN_TAIL⟩, ⟨_, PySem.W.mg_of X G g_TELLING⟩, ⟨_, PySem.W.mg_of X G g_WAITING⟩, ⟨_, PySem.W.mg_of X G g_OFF⟩, ⟨_, PySem.W.mg_of X G g_CONFIRMING⟩, ⟨_, PySem.W.mg_of X G g_SUM_IS_JUDGED⟩, ⟨_, PySem.W.mg_of X G g_LAST_OF_TAIL⟩, ⟨_, PySem.W.mg_of X G g_ONES_OF_TAIL⟩, ⟨_, PySem.W.mg_of X G g_ONES_UNTIL_IDLE⟩, ⟨_, PySem.W.mg_of X G g_BITS_OF_TELLING⟩, ⟨_, PySem.W.mg_of X G g_SENDER_ERROR⟩, ⟨_, PySem.W.mg_of X G g_SENDER_IS_OFF⟩, ⟨_, PySem.W.mg_of X G g_HEARER_ERROR⟩, ⟨_, PySem.W.mg_of X G g_MOST_HEARER_ERRORS⟩, ⟨_, PySem.W.mg_of X G g_DONE⟩, ⟨_, PySem.W.mg_of X G g_GOT_FRAME⟩, ⟨_, PySem.W.mg_of X G g_OWN_IS_THROUGH⟩, ⟨_, PySem.W.mg_of X G g_ERROR⟩, ⟨_, PySem.W.mg_of X G g_ANOTHER_WINS⟩, ⟨_, PySem.W.mg_of X G g_NOW_OFF⟩, ⟨_, PySem.W.mg_of X G g_WANTS_ONE_ALREADY⟩, ⟨_, PySem.W.mg_of X G g_GOT_NONE⟩, ⟨_, PySem.W.mg_of X G g_OUT_OF_RANGE⟩, ⟨_, PySem.W.mg_of X G g_COUNT_SENDER_ERRORS⟩, ⟨_, PySem.W.mg_of X G g_COUNT_HEARER_ERRORS⟩, ⟨_, PySem.W.mg_of X G g_COUNT_STATE⟩, ⟨_, PySem.W.mg_of X G g_BEGIN⟩, ⟨_, PySem.W.mg_of X G g_SEND⟩, ⟨_, PySem.W.mg_of X G g_OUT⟩, ⟨_, PySem.W.mg_of X G g_HEAR⟩, ⟨_, PySem.W.mg_of X G g_LOOK⟩, ⟨_, PySem.W.mg_of X G g_COUNT⟩, ⟨_, PySem.W.mg_of X G g_SEND_HEAD⟩, _, _, ⟨F1, b1, PySem.W.mg_of X G a1⟩, _, _, ⟨F2, b2, PySem.W.mg_of X G a2⟩, _, _, ⟨F3, b3, PySem.W.mg_of X G a3⟩, _, _, ⟨F4, b4, PySem.W.mg_of X G a4⟩, _, _, ⟨F5, b5, PySem.W.mg_of X G a5⟩, _, _, ⟨F6, b6, PySem.W.mg_of X G a6⟩, _, _, ⟨F7, b7, PySem.W.mg_of X G a7⟩, _, _, ⟨F8, b8, ⟨a8, i8, k8⟩⟩, _, _, ⟨F9, b9, ⟨a9, i9, k9⟩⟩, _, _, ⟨F10, b10, ⟨a10, i10, k10⟩⟩, _, _, ⟨F11, b11, ⟨a11, i11, k11⟩⟩, _, _, ⟨F12, b12, ⟨a12, i12, k12⟩⟩, _, _, ⟨F13, b13, ⟨a13, i13, k13⟩⟩, _, _, ⟨F14, b14, ⟨a14, i14, k14⟩⟩, _, _, ⟨F15, b15, ⟨a15, i15, k15⟩⟩, _, _, ⟨F16, b16, ⟨a16, i16, k16⟩⟩, _, _, ⟨F17, b17, ⟨a17, i17, k17⟩⟩, _, _, ⟨F18, b18, ⟨a18, i18, k18⟩⟩, _, _, ⟨F19, b19, ⟨a19, i19, k19⟩⟩, _, _, ⟨F20, b20, ⟨a20, i20, k20⟩⟩, _, _, ⟨F21, b21, ⟨a21, i21, k21⟩⟩, _, _, ⟨F22, b22, ⟨a22, i22, k22⟩⟩, _, _, ⟨F23, b23, ⟨a23, i23, k23⟩⟩, _, _, ⟨F24, b24, ⟨a24, i24, k24⟩⟩, _, _, ⟨F25, b25, ⟨a25, i25, k25⟩⟩, _, _, ⟨F26, b26, ⟨a26, i26, k26⟩⟩, _, _, ⟨F27, b27, ⟨a27, i27, k27⟩⟩, _, _, ⟨F28, b28, ⟨a28, i28, k28⟩⟩, _, _, ⟨F29, b29, ⟨a29, i29, k29⟩⟩, _, _, ⟨F30, b30, ⟨a30, i30, k30⟩⟩, _, _, ⟨F31, b31, ⟨a31, i31, k31⟩⟩, _, _, ⟨F32, b32, ⟨a32, i32, k32⟩⟩, _, _, ⟨F33, b33, PySem.W.mg_of X G a33⟩, _, _, ⟨F34, b34, PySem.W.mg_of X G a34⟩, _, _, ⟨F35, b35, PySem.W.mg_of X G a35⟩, ⟨mkH, a8, i8, kcH⟩, ⟨mk, a17, i17, kc⟩⟩, rfl⟩
end Cw

namespace Cw
open PySem PySem.Spec PyProof.Rows L2
open PySem.W (Codec)
/-! ### a module's whole number, by its name -/
theorem pgI {X : Cx} {x : Str} {i : Int} {pos : Pos} (hm : ∃ t, X.mg x = some (Value.int i t)) (hg : Gl X x := by rfl) (hd : (x == ("__debug__" : Str)) = false := by decide) : PE X (.Name x pos) (tC (.int i)) := by
  obtain ⟨t, h⟩ := hm
  exact pe_glob hg h ⟨_, rfl⟩ hd
theorem ifB {b : Bool} {A B : Prop} (c : Bool) (e : b = c) (h1 : c = true → A) (h2 : c = false → B) : if b = true then A else B := by
  subst e
  cases b with
  | true => rw [if_pos rfl]; exact h1 rfl
  | false => rw [if_neg Bool.false_ne_true]; exact h2 rfl
/-! ### bits as values -/
def bv (b : Bool) : V := .int (b.toNat : Int)
def bvs (l : Ql84.Bits) : List V := l.map bv
section
variable {P : Program} {w : World} {K : PySem.W.Frag} {mg : Str → Option Value} {base : Heap}
/-! ### may_be_sent -/
def spMayBeSent : Sp := fun vs H Q _ => ∃ (id n : Int), vs = [.int id, .int n] ∧ Q (.bl (decide ((0 ≤ id ∧ id ≤ 2047) ∧ n ≤ 8))) H
theorem ok_may_be_sent (W : Env K mg) : FnOk P w K mg base CX0 1 W.f_may_be_sent W.fd_may_be_sent ["name", "length"] spMayBeSent := by
  refine W.d_may_be_sent.F.ok sc_may_be_sent (fun vs H Q E h => ?_) (fun cdv A outer s H vs Q E hr h => ?_)
  · obtain ⟨_, _, rfl, _⟩ := h
    rfl
  · obtain ⟨id, n, rfl, k⟩ := h
    refine ⟨_, (pss_one (ps_ret (pe_and (pe_chain op_le op_le pe_int (pv 0) (pgI W.g_HIGHEST_NAME)) (pe_one (pe_cmpR op_le (pv 1) (pgI W.g_MOST_BYTES) (nomark _)))))), ?_⟩
    refine ⟨_, rfl, _, _, rfl, rfl, _, rfl, ?_⟩
    by_cases c1 : (0 : Int) ≤ id
    · rw [decide_eq_true c1, if_pos rfl]
      refine ⟨_, _, rfl, rfl, _, rfl, ?_⟩
      by_cases c2 : id ≤ 2047
      · rw [decide_eq_true c2, if_pos rfl]
        refine ⟨_, rfl, _, _, rfl, rfl, ?_⟩
        have e : decide ((0 ≤ id ∧ id ≤ 2047) ∧ n ≤ 8) = decide (n ≤ 8) := by simp [c1, c2]
        rw [e] at k
        exact k
      · rw [decide_eq_false c2, if_neg Bool.false_ne_true]
        have e : decide ((0 ≤ id ∧ id ≤ 2047) ∧ n ≤ 8) = false := by simp [c2]
        rw [e] at k
        exact k
    · rw [decide_eq_false c1, if_neg Bool.false_ne_true]
      refine ⟨_, rfl, ?_⟩
      rw [if_neg Bool.false_ne_true]
      have e : decide ((0 ≤ id ∧ id ≤ 2047) ∧ n ≤ 8) = false := by simp [c1]
      rw [e] at k
      exact k
/-! ### bits_of -/
/-- a number's bits, the highest first: a new list -/
def spBitsOf : Sp := fun vs H Q _ => ∃ (n w : Nat), vs = [.int n, .int w] ∧ w ≤ 1000 ∧ ∀ p, H p = none → Q (.ref p) (upd H p (.lst (bvs (Ql84.bitsOf n w))))
theorem bit_val (n i : Nat) : V.int (Builtin.bitAnd ((n : Int) / 2 ^ i) 1) = bv (n.testBit i) := by
  unfold bv
  congr 1
  have e : ((n : Int) / 2 ^ i) = ((n / 2 ^ i : Nat) : Int) := by
    rw [Int.natCast_ediv, Int.natCast_pow]
    rfl
  have e2 : (1 : Int) = 2 ^ 1 - 1 := by decide
  rw [e, e2, Bits.bitAnd_mask 1 (Int.natCast_nonneg _), Nat.testBit_eq_decide_div_mod_eq]
  have h : n / 2 ^ i % 2 = 0 ∨ n / 2 ^ i % 2 = 1 := by omega
  show (((n / 2 ^ i : Nat) : Int) % 2) = _
  rcases h with h | h
  · rw [h]
    show _ = (0 : Int)
    omega
  · rw [h]
    show _ = (1 : Int)
    omega
theorem ok_bits_of (W : Env K mg) : FnOk P w K mg base CX0 1 W.f_bits_of W.fd_bits_of ["number", "width"] spBitsOf := by
  refine W.d_bits_of.F.ok sc_bits_of (fun vs H Q E h => ?_) (fun cdv A outer s H vs Q E hr h => ?_)
  · obtain ⟨_, _, rfl, _⟩ := h
    rfl
  · obtain ⟨n, wd, rfl, hw, k⟩ := h
    refine ⟨_, (pss_one (ps_ret (pe_lc (own := [("place", 2)]) (g := gName 2) rfl sc_bits_of.nd (pi_range3 rfl W.range (pa_cons (pe_op op_sub (pv 1) pe_int) (pa_cons (pe_un un_neg pe_int) (pa_cons (pe_un un_neg pe_int) pa_nil)))) (blkOk_by (N := ["number", "width", "place"]) (sc := defScope s_bits_of) (own := [("place", 2)]) (by decide +kernel)) (fun _ _ _ _ _ => pg_name (i := 2) sc_bits_of.nd rfl (Or.inl rfl)) (fun _ _ _ _ _ => pts_nil) (fun _ _ _ _ _ => (pe_op op_and (pe_op op_shr (pv 0) (pv 2)) pe_int))))), ?_⟩
    refine ⟨_, rfl, _, _, rfl, rfl, _, rfl, _, rfl, (wd : Int) - 1, -1, -1, wd, rfl, ?_, fun D hD => ?_⟩
    · have h := RgC.neg (i := (wd : Int) - 1) (j := -1) (by omega) (by omega) (by omega) (by omega)
      have e : ((wd : Int) - 1 - -1).toNat = wd := by omega
      rw [e] at h
      exact h
    · refine lc_it (walk_rangeC (lo := (wd : Int) - 1) (c := -1) (n := wd)) (fun i H' => H' = upd H D (.lst (bvs ((Ql84.bitsOf n wd).take i)))) rfl (fun _ _ _ _ => trivial) ?_ ?_
      · rintro i x H1 H' hi rfl ⟨rfl, rfl⟩
        refine ⟨rfl, _, rfl, _, rfl, (n : Int), ((wd - 1 - i : Nat) : Int), rfl, ?_, Int.natCast_nonneg _, _, _, rfl, rfl, _, upd_same, ?_, ?_⟩
        · exact congrArg V.int (show (wd : Int) - 1 + (i : Int) * (-1) = ((wd - 1 - i : Nat) : Int) by omega)
        · show (List.map bv _).length < sizeLine
          rw [List.length_map, List.length_take]
          have : sizeLine = 16777216 := by decide
          omega
        · have e : ((wd - 1 - i : Nat) : Int).toNat = wd - 1 - i := by omega
          show upd (upd H D _) D (.lst (_ ++ [V.int (Builtin.bitAnd ((n : Int) / 2 ^ ((wd - 1 - i : Nat) : Int).toNat) 1)])) = _
          rw [upd_upd, e, bit_val]
          congr 2
          unfold bvs
          have e2 : (Ql84.bitsOf n wd)[i]? = some (n.testBit (wd - 1 - i)) := by
            unfold Ql84.bitsOf
            rw [List.getElem?_map, List.getElem?_range hi]
            rfl
          rw [List.take_add_one, e2, List.map_append]
          rfl
      · rintro H' rfl
        have e : (Ql84.bitsOf n wd).take wd = Ql84.bitsOf n wd := List.take_of_length_le (by rw [bitsOf_length]; exact Nat.le_refl _)
        rw [e]
        exact k D hD
/-! ### sum_with, sum_of -/
def spSumWith : Sp := fun vs H Q _ => ∃ (r : Nat) (b : Bool), vs = [.int r, bv b] ∧ r < 32768 ∧ Q (.int (Ql84.sumStep r b : Nat)) H
theorem sumStep_lt (r : Nat) (b : Bool) : Ql84.sumStep r b < 32768 := by
  unfold Ql84.sumStep
  split
  · exact Nat.xor_lt_two_pow (n := 15) (by omega) (by decide)
  · omega
theorem sum_lt : ∀ (l : Ql84.Bits) (r : Nat), r < 32768 → l.foldl Ql84.sumStep r < 32768
  | [], r, h => h
  | b :: l, r, _ => sum_lt l _ (sumStep_lt r b)
theorem top_bit {r : Nat} (h : r < 32768) : (r : Int) / 2 ^ 14 = ((r.testBit 14).toNat : Int) := by
  rw [Nat.testBit_eq_decide_div_mod_eq]
  have h1 : r / 2 ^ 14 = 0 ∨ r / 2 ^ 14 = 1 := by omega
  rcases h1 with h1 | h1
  · rw [h1]
    show _ = (0 : Int)
    omega
  · rw [h1]
    show _ = (1 : Int)
    omega
theorem bv_ne (a b : Bool) : (!decide (V.int (a.toNat : Int) = bv b)) = (b != a) := by
  cases a <;> cases b <;> decide
theorem ok_sum_with (W : Env K mg) : FnOk P w K mg base CX0 1 W.f_sum_with W.fd_sum_with ["total", "bit"] spSumWith := by
  refine W.d_sum_with.F.ok sc_sum_with (fun vs H Q E h => ?_) (fun cdv A outer s H vs Q E hr h => ?_)
  · obtain ⟨_, _, rfl, _⟩ := h
    rfl
  · obtain ⟨r, b, rfl, hlt, k⟩ := h
    refine ⟨_, (pss_cons (ps_set (i := 2) sc_sum_with.nd rfl (Or.inl rfl) (pe_op op_and (pe_op op_shl (pv 0) pe_int) (pgI W.g_SUM_MASK)))
      (pss_cons (ps_if (pt_cmpR op_ne (pe_op op_shr (pv 0) (pe_op op_sub (pgI W.g_SUM_BITS) pe_int)) (pv 1) (nomark _)) (pss_one (ps_ret (pe_op op_xor (pv 2) (pgI W.g_SUM_POLYNOMIAL)))) pss_nil)
      (pss_one (ps_ret (pv 2))))), ?_⟩
    refine ⟨_, rfl, _, _, rfl, rfl, ⟨by decide, by decide, by show ((r : Int)).natAbs < 2 ^ 64; omega⟩, _, _, rfl, rfl, ?_⟩
    have e1 : Builtin.bitAnd ((r : Int) * 2 ^ (1 : Int).toNat) 32767 = ((2 * r % 32768 : Nat) : Int) := by
      have q : (32767 : Int) = 2 ^ 15 - 1 := by decide
      rw [q, Bits.bitAnd_mask 15 (by show (0 : Int) ≤ (r : Int) * 2; omega)]
      show ((r : Int) * 2) % 32768 = _
      omega
    refine ⟨_, rfl, _, _, rfl, rfl, _, _, rfl, rfl, (by show (0 : Int) ≤ 15 - 1; decide), _, rfl, rfl, _, rfl, ?_⟩
    have e2 : (r : Int) / 2 ^ ((15 : Int) - 1).toNat = ((r.testBit 14).toNat : Int) := top_bit hlt
    unfold Ql84.sumStep at k
    refine ifB (b != r.testBit 14) ?_ (fun c => ?_) (fun c => ?_)
    · show (!decide (V.int ((r : Int) / 2 ^ ((15 : Int) - 1).toNat) = bv b)) = _
      rw [e2, bv_ne]
    · rw [if_pos c] at k
      refine ⟨_, rfl, _, _, rfl, rfl, ?_⟩
      show Q (V.int (Builtin.bitXor (Builtin.bitAnd ((r : Int) * 2 ^ (1 : Int).toNat) 32767) 17817)) H
      rw [e1, Bits.bitXor_pp (Int.natCast_nonneg _) (by decide)]
      exact k
    · rw [c, if_neg Bool.false_ne_true] at k
      refine ⟨_, rfl, ?_⟩
      show Q (V.int (Builtin.bitAnd ((r : Int) * 2 ^ (1 : Int).toNat) 32767)) H
      rw [e1]
      exact k
def spSumOf (K : PySem.W.Frag) : Sp := fun vs H Q _ => ∃ (a : Addr) (l : Ql84.Bits), vs = [.ref a] ∧ SqL K H a (bvs l) ∧ Q (.int (Ql84.sum l : Nat)) H
theorem sum_snoc (l : Ql84.Bits) (b : Bool) : Ql84.sum (l ++ [b]) = Ql84.sumStep (Ql84.sum l) b := by
  unfold Ql84.sum
  rw [List.foldl_append]
  rfl
theorem bvs_at {l : Ql84.Bits} {i : Nat} {y : V} (h : (bvs l)[i]? = some y) : ∃ b, l[i]? = some b ∧ y = bv b := by
  unfold bvs at h
  rw [List.getElem?_map] at h
  cases e : l[i]? with
  | none => rw [e] at h; cases h
  | some b => rw [e] at h; exact ⟨b, rfl, (Option.some.inj h).symm⟩
theorem take_snoc {α : Type} {l : List α} {i : Nat} {x : α} (h : l[i]? = some x) : l.take (i + 1) = l.take i ++ [x] := by
  rw [List.take_add_one, h]
  rfl
theorem ok_sum_of (W : Env K mg) : FnOk P w K mg base CX0 2 W.f_sum_of W.fd_sum_of ["bits"] (spSumOf K) := by
  refine W.d_sum_of.F.ok sc_sum_of (fun vs H Q E h => ?_) (fun cdv A outer s H vs Q E hr h => ?_)
  · obtain ⟨_, _, rfl, _⟩ := h
    rfl
  · obtain ⟨a, l, rfl, hS, k⟩ := h
    refine ⟨_, (pss_cons (ps_set (i := 1) sc_sum_of.nd rfl (Or.inl rfl) pe_int)
      (pss_cons (ps_for PassesOwn.never rfl (pi_list (pv 0)) (pg_name (i := 2) sc_sum_of.nd rfl (Or.inl rfl)) (pss_one (ps_set (i := 1) sc_sum_of.nd rfl (Or.inl rfl) (pe_call (ok_sum_with W) (hr.mono (by decide)) rfl W.d_sum_with.m W.d_sum_with.F.kp W.d_sum_with.b .nil pass0 (pa_cons (pv 1) (pa_cons (pv 2) pa_nil))))))
      (pss_one (ps_ret (pv 1))))), ?_⟩
    refine ⟨_, rfl, a, rfl, ⟨_, hS⟩, for_list (K := K) (a := a) (xs := bvs l) (fun i σ H' => ∃ v : Option V, σ = [some (.ref a), some (.int (Ql84.sum (l.take i) : Nat)), v] ∧ H' = H) ⟨none, rfl, rfl⟩ (fun i σ H' _ ⟨_, _, e⟩ => by rw [e]; exact hS) ?_ ?_⟩
    · rintro i y σ H' hi ⟨v, rfl, rfl⟩
      obtain ⟨b, hb, rfl⟩ := bvs_at hi
      refine ⟨_, rfl, _, rfl, Ql84.sum (l.take i), b, rfl, sum_lt _ _ (by decide), ?_⟩
      refine ⟨some (bv b), ?_, rfl⟩
      rw [take_snoc hb, sum_snoc]
      rfl
    · rintro σ H' ⟨v, rfl, rfl⟩
      refine ⟨_, rfl, ?_⟩
      have e : l.take (bvs l).length = l := by unfold bvs; rw [List.length_map, List.take_length]
      rw [e]
      exact k
/-! ### frame_bits -/
def nvs (l : List Nat) : List V := l.map fun (x : Nat) => V.int x
def spFrameBits (K : PySem.W.Frag) : Sp := fun vs H Q _ => ∃ (d : Addr) (fr : Ql84.Frame), vs = [.int fr.id, .ref d] ∧ SqL K H d (nvs fr.data) ∧ fr.Ok ∧ ∀ H' p, Same H H' → H p = none → H' p = some (.lst (bvs (Ql84.plain fr))) → Q (.ref p) H'
theorem bvs_append (a b : Ql84.Bits) : bvs (a ++ b) = bvs a ++ bvs b := List.map_append
theorem bvs_length (a : Ql84.Bits) : (bvs a).length = a.length := List.length_map _
theorem bvs_cons (b : Bool) (l : Ql84.Bits) : bvs (b :: l) = bv b :: bvs l := rfl
theorem head0 (id n : Nat) : ((([V.int 0] ++ bvs (Ql84.bitsOf id 11)) ++ [.int 0, .int 0, .int 0]) ++ bvs (Ql84.bitsOf n 4)) = bvs (false :: (Ql84.bitsOf id 11 ++ ([false, false, false] ++ (Ql84.bitsOf n 4 ++ [])))) := by
  rw [bvs_cons, bvs_append, bvs_append, bvs_append, List.append_assoc, List.append_assoc]
  have : bvs [] = [] := rfl
  rw [this, List.append_nil]
  rfl
theorem nvs_at {l : List Nat} {i : Nat} {y : V} (h : (nvs l)[i]? = some y) : ∃ b : Nat, l[i]? = some b ∧ y = V.int b := by
  unfold nvs at h
  rw [List.getElem?_map] at h
  cases e : l[i]? with
  | none => rw [e] at h; cases h
  | some b => rw [e] at h; exact ⟨b, rfl, (Option.some.inj h).symm⟩
theorem same_upd {H : Hp} {p : Addr} {o : HO} (h : H p = none) : Same H (upd H p o) := fun b u e => by
  rw [upd_ne (ne_of_none e h)]
  exact e
theorem same_mut {H H' : Hp} {p : Addr} {o : HO} (s : Same H H') (h : H p = none) : Same H (upd H' p o) := fun b u e => by
  rw [upd_ne (ne_of_none e h)]
  exact s b u e
theorem upd_old {H : Hp} {p q : Addr} {o u : HO} (h : H p = some o) (n : H q = none) : upd H q u p = some o := by
  rw [upd_ne (ne_of_none h n)]
  exact h
theorem lt_line {n : Nat} (h : n ≤ 1000000) : n ≤ sizeLine := Nat.le_trans h (by decide)
theorem flat_take (l : List Nat) (i : Nat) : ((l.take i).flatMap fun x => Ql84.bitsOf x 8).length ≤ 8 * l.length := by
  rw [flat_length, List.length_take]
  omega
theorem ok_frame_bits (W : Env K mg) : FnOk P w K mg base CX0 3 W.f_frame_bits W.fd_frame_bits ["name", "data"] (spFrameBits K) := by
  refine W.d_frame_bits.F.ok sc_frame_bits (fun vs H Q E h => ?_) (fun cdv A outer s H vs Q E hr h => ?_)
  · obtain ⟨_, _, rfl, _⟩ := h
    rfl
  · obtain ⟨d, fr, rfl, hS, ok, k⟩ := h
    refine ⟨_, (pss_cons (ps_set (i := 2) sc_frame_bits.nd rfl (Or.inl rfl) (pe_op op_cat (pe_op op_cat (pe_op op_cat (pe_lst (pa_cons pe_int pa_nil)) (pe_call (ok_bits_of W) (hr.mono (by decide)) rfl W.d_bits_of.m W.d_bits_of.F.kp W.d_bits_of.b .nil pass0 (pa_cons (pv 0) (pa_cons (pgI W.g_NAME_BITS) pa_nil)))) (pe_lst (pa_cons pe_int (pa_cons pe_int (pa_cons pe_int pa_nil))))) (pe_call (ok_bits_of W) (hr.mono (by decide)) rfl W.d_bits_of.m W.d_bits_of.F.kp W.d_bits_of.b .nil pass0 (pa_cons (pe_callB call_len_seq (by rfl) W.len PySem.boot_len (pa_cons (pv 1) pa_nil)) (pa_cons (pgI W.g_LENGTH_BITS) pa_nil)))))
      (pss_cons (ps_for PassesOwn.never rfl (pi_list (pv 1)) (pg_name (i := 3) sc_frame_bits.nd rfl (Or.inl rfl)) (pss_one (ps_expr (pe_bm PySem.F.plainAttrs_list PySem.F.slot_list_extend PySem.F.type_list_extend mt_extend (pv 2) (pa_cons (pe_call (ok_bits_of W) (hr.mono (by decide)) rfl W.d_bits_of.m W.d_bits_of.F.kp W.d_bits_of.b .nil pass0 (pa_cons (pv 3) (pa_cons (pgI W.g_BYTE_BITS) pa_nil))) pa_nil)))))
      (pss_one (ps_ret (pe_op op_cat (pv 2) (pe_call (ok_bits_of W) (hr.mono (by decide)) rfl W.d_bits_of.m W.d_bits_of.F.kp W.d_bits_of.b .nil pass0 (pa_cons (pe_call (ok_sum_of W) (hr.mono (by decide)) rfl W.d_sum_of.m W.d_sum_of.F.kp W.d_sum_of.b .nil pass0 (pa_cons (pv 2) pa_nil)) (pa_cons (pgI W.g_SUM_BITS) pa_nil)))))))), ?_⟩
    have hd8 := ok.2.1
    -- [0]
    refine ⟨by decide, fun p1 n1 => ?_⟩
    have s1 : Same H (upd H p1 (.lst [.int 0])) := same_upd n1
    -- bits_of(name, NAME_BITS)
    refine ⟨_, rfl, fr.id, 11, rfl, by decide, fun p2 n2 => ?_⟩
    have s2 := s1.trans (same_upd (o := .lst (bvs (Ql84.bitsOf fr.id 11))) n2)
    refine ⟨p1, p2, [.int 0], _, rfl, rfl, upd_old upd_same n2, upd_same, ?_, fun p3 n3 => ?_⟩
    · exact lt_line (by rw [bvs_length, bitsOf_length]; decide)
    have s3 := s2.trans (same_upd (o := .lst ([.int 0] ++ bvs (Ql84.bitsOf fr.id 11))) n3)
    -- [0, 0, 0]
    refine ⟨by decide, fun p4 n4 => ?_⟩
    have s4 := s3.trans (same_upd (o := .lst [.int 0, .int 0, .int 0]) n4)
    refine ⟨p3, p4, _, _, rfl, rfl, upd_old upd_same n4, upd_same, ?_, fun p5 n5 => ?_⟩
    · exact lt_line (by rw [List.length_append, bvs_length, bitsOf_length]; decide)
    have s5 := s4.trans (same_upd (o := .lst (([.int 0] ++ bvs (Ql84.bitsOf fr.id 11)) ++ [.int 0, .int 0, .int 0])) n5)
    -- bits_of(len(data), LENGTH_BITS)
    refine ⟨_, rfl, d, _, rfl, .inl (s5.seq hS), fr.data.length, 4, ?_, by decide, fun p6 n6 => ?_⟩
    · unfold nvs
      rw [List.length_map]
      rfl
    have s6 := s5.trans (same_upd (o := .lst (bvs (Ql84.bitsOf fr.data.length 4))) n6)
    refine ⟨p5, p6, _, _, rfl, rfl, upd_old upd_same n6, upd_same, ?_, fun p7 n7 => ?_⟩
    · exact lt_line (by rw [List.length_append, List.length_append, bvs_length, bitsOf_length, bvs_length, bitsOf_length]; decide)
    -- the loop
    have n7' : H p7 = none := s6.free n7
    have e0 : ((([V.int 0] ++ bvs (Ql84.bitsOf fr.id 11)) ++ [.int 0, .int 0, .int 0]) ++ bvs (Ql84.bitsOf fr.data.length 4)) = bvs (false :: (Ql84.bitsOf fr.id 11 ++ ([false, false, false] ++ (Ql84.bitsOf fr.data.length 4 ++ ((fr.data.take 0).flatMap fun (x : Nat) => Ql84.bitsOf x 8))))) := by
      exact head0 _ _
    refine ⟨_, rfl, d, rfl, ⟨_, (s6.trans (same_upd n7)).seq hS⟩, for_list (K := K) (a := d) (xs := nvs fr.data) (fun i σ H' => ∃ v : Option V, σ = [some (.int fr.id), some (.ref d), some (.ref p7), v] ∧ Same H H' ∧ H' p7 = some (.lst (bvs (false :: (Ql84.bitsOf fr.id 11 ++ ([false, false, false] ++ (Ql84.bitsOf fr.data.length 4 ++ ((fr.data.take i).flatMap fun (x : Nat) => Ql84.bitsOf x 8)))))))) ⟨none, rfl, s6.trans (same_upd n7), by rw [← e0]; exact upd_same⟩ (fun i σ H' _ ⟨_, _, s8, _⟩ => s8.seq hS) ?_ ?_⟩
    · rintro i y σ H' hi ⟨v, rfl, s8, h8⟩
      obtain ⟨b, hb, rfl⟩ := nvs_at hi
      have hlen : (bvs (false :: (Ql84.bitsOf fr.id 11 ++ ([false, false, false] ++ (Ql84.bitsOf fr.data.length 4 ++ ((fr.data.take i).flatMap fun (x : Nat) => Ql84.bitsOf x 8)))))).length ≤ 83 := by
        rw [bvs_length, List.length_cons, List.length_append, List.length_append, List.length_append, bitsOf_length, bitsOf_length]
        have := flat_take fr.data i
        show 11 + (3 + _) + 1 ≤ 83
        omega
      refine ⟨_, rfl, .inl ⟨rfl, _, SqL.of h8⟩, _, rfl, b, 8, rfl, by decide, fun q nq => ?_⟩
      refine ⟨p7, q, _, _, rfl, rfl, upd_old h8 nq, upd_same, ?_, ?_⟩
      · refine lt_line ?_
        rw [bvs_length (Ql84.bitsOf b 8), bitsOf_length]
        omega
      · refine ⟨some (.int b), rfl, ?_, ?_⟩
        · exact same_mut (s8.trans (same_upd nq)) n7'
        · rw [upd_same, ← bvs_append]
          congr 3
          rw [take_snoc hb, List.flatMap_append]
          simp only [List.cons_append, List.append_assoc, List.flatMap_cons, List.flatMap_nil, List.append_nil]
    · rintro σ H' ⟨v, rfl, s8, h8⟩
      have el : (nvs fr.data).length = fr.data.length := List.length_map _
      rw [el, List.take_length] at h8
      refine ⟨_, rfl, _, rfl, p7, Ql84.head fr, rfl, SqL.of h8, Ql84.sum (Ql84.head fr), 15, rfl, by decide, fun q nq => ?_⟩
      refine ⟨p7, q, _, _, rfl, rfl, upd_old h8 nq, upd_same, ?_, fun p nP => ?_⟩
      · refine lt_line ?_
        have : (bvs (Ql84.head fr)).length ≤ 83 := by
          rw [bvs_length, head_length]
          omega
        have h2 : (bvs (Ql84.bitsOf (Ql84.sum (Ql84.head fr)) 15)).length = 15 := by rw [bvs_length, bitsOf_length]
        show (bvs (Ql84.head fr)).length + _ ≤ _
        omega
      · have s9 := s8.trans (same_upd (o := .lst (bvs (Ql84.bitsOf (Ql84.sum (Ql84.head fr)) 15))) nq)
        refine k _ p (s9.trans (same_upd nP)) (s9.free nP) ?_
        rw [upd_same]
        show some (HO.lst (bvs (Ql84.head fr) ++ _)) = _
        rw [← bvs_append]
        rfl
/-! ### stuffed -/
def spStuffed (K : PySem.W.Frag) : Sp := fun vs H Q _ => ∃ (a : Addr) (l : Ql84.Bits), vs = [.ref a] ∧ SqL K H a (bvs l) ∧ l.length ≤ 1000 ∧ ∀ H' p, Same H H' → H p = none → H' p = some (.lst (bvs (Ql84.stuffed 0 true l))) → Q (.ref p) H'
/-- what the eager stuffing has behind some bits: what it has put, the run, the last bit -/
structure Eag (pre row : Ql84.Bits) (run : Nat) (last : Bool) : Prop where
  eq : ∀ rest, Ql84.stuffed 0 true (pre ++ rest) = row ++ Ql84.stuffed run last rest
  lt : run < 5
  len : row.length ≤ 2 * pre.length
  st : (row = [] ∧ run = 0) ∨ ∃ r, row = r ++ [last]
theorem Eag.start : Eag [] [] 0 true := ⟨fun _ => rfl, by decide, Nat.le_refl _, .inl ⟨rfl, rfl⟩⟩
/-- the run behind one more bit, as the program reckons it -/
def nextRun (row : Ql84.Bits) (run : Nat) (last b : Bool) : Nat := if row = [] then 1 else if last = b then run + 1 else 1
theorem Eag.run_is {pre row : Ql84.Bits} {run : Nat} {last : Bool} (h : Eag pre row run last) (b : Bool) : nextRun row run last b = eagerRun run last b := by
  unfold nextRun eagerRun
  rcases h.st with ⟨e, e2⟩ | ⟨r, e⟩
  · subst e e2
    rw [if_pos rfl]
    split <;> rfl
  · rw [if_neg (by rw [e]; simp)]
    by_cases c : b = last
    · rw [if_pos c, if_pos c.symm]
    · rw [if_neg c, if_neg (fun q => c q.symm)]
theorem Eag.more {pre row : Ql84.Bits} {run : Nat} {last : Bool} (h : Eag pre row run last) {b : Bool} (c : nextRun row run last b = 5) : Eag (pre ++ [b]) (row ++ [b] ++ [!b]) 1 (!b) := by
  rw [h.run_is] at c
  refine ⟨fun rest => ?_, by decide, ?_, .inr ⟨_, rfl⟩⟩
  · rw [List.append_assoc, h.eq]
    show row ++ Ql84.stuffed run last (b :: rest) = _
    rw [st_turn h.lt, if_pos c]
    simp
  · have := h.len
    simp
    omega
theorem Eag.less {pre row : Ql84.Bits} {run : Nat} {last : Bool} (h : Eag pre row run last) {b : Bool} (c : ¬ nextRun row run last b = 5) : Eag (pre ++ [b]) (row ++ [b]) (nextRun row run last b) b := by
  have e := h.run_is b
  rw [e] at c ⊢
  refine ⟨fun rest => ?_, ?_, ?_, .inr ⟨_, rfl⟩⟩
  · rw [List.append_assoc, h.eq]
    show row ++ Ql84.stuffed run last (b :: rest) = _
    rw [st_turn h.lt, if_neg c]
    simp
  · have := h.lt
    unfold eagerRun at c ⊢
    split at c
    · rename_i q
      rw [if_pos q]
      omega
    · rename_i q
      rw [if_neg q]
      decide
  · have := h.len
    simp
    omega
theorem bv_eq (a b : Bool) : decide (bv a = bv b) = decide (a = b) := by
  cases a <;> cases b <;> decide
theorem bv_not (b : Bool) : V.int (1 - (b.toNat : Int)) = bv (!b) := by
  cases b <;> rfl
theorem ok_stuffed (W : Env K mg) : FnOk P w K mg base CX0 1 W.f_stuffed W.fd_stuffed ["bits"] (spStuffed K) := by
  refine W.d_stuffed.F.ok sc_stuffed (fun vs H Q E h => ?_) (fun cdv A outer s H vs Q E hr h => ?_)
  · obtain ⟨_, _, rfl, _⟩ := h
    rfl
  · obtain ⟨a, l, rfl, hS, hl, k⟩ := h
    refine ⟨_, (pss_cons (ps_set (i := 1) sc_stuffed.nd rfl (Or.inl rfl) (pe_lst pa_nil))
      (pss_cons (ps_set (i := 2) sc_stuffed.nd rfl (Or.inl rfl) pe_int)
      (pss_cons (ps_for PassesOwn.never rfl (pi_list (pv 0)) (pg_name (i := 3) sc_stuffed.nd rfl (Or.inl rfl)) (pss_cons (ps_set (i := 2) sc_stuffed.nd rfl (Or.inl rfl) (pe_ifExp (PW.pt (pw_and (pt_truth (pv 1) (by intro _; rfl)) (pw_and1 (pt_cmpR op_eq (pe_ix ix_list (pv 1) (pe_un un_neg pe_int) (fun _ _ => rfl)) (pv 3) (nomark _))))) (pe_op op_add (pv 2) pe_int) pe_int))
      (pss_cons (ps_expr (pe_bm PySem.F.plainAttrs_list PySem.F.slot_list_append PySem.F.type_list_append mt_append (pv 1) (pa_cons (pv 3) pa_nil)))
      (pss_one (ps_if (pt_cmpR op_eq (pv 2) (pgI W.g_MOST_ALIKE) (nomark _)) (pss_cons (ps_expr (pe_bm PySem.F.plainAttrs_list PySem.F.slot_list_append PySem.F.type_list_append mt_append (pv 1) (pa_cons (pe_op op_sub pe_int (pv 3)) pa_nil)))
      (pss_one (ps_set (i := 2) sc_stuffed.nd rfl (Or.inl rfl) pe_int))) pss_nil)))))
      (pss_one (ps_ret (pv 1)))))), ?_⟩
    refine ⟨Nat.zero_le _, fun p np => ?_⟩
    refine ⟨_, rfl, a, rfl, ⟨_, (same_upd np).seq hS⟩, for_list (K := K) (a := a) (xs := bvs l) (fun i σ H' => ∃ (v : Option V) (row : Ql84.Bits) (run : Nat) (last : Bool), σ = [some (.ref a), some (.ref p), some (.int run), v] ∧ Same H H' ∧ H' p = some (.lst (bvs row)) ∧ Eag (l.take i) row run last) ⟨none, [], 0, true, rfl, same_upd np, upd_same, Eag.start⟩ (fun i σ H' _ ⟨_, _, _, _, _, s8, _⟩ => s8.seq hS) ?_ ?_⟩
    · rintro i y σ H' hi ⟨v, row, run, last, rfl, s8, h8, eg⟩
      obtain ⟨b, hb, rfl⟩ := bvs_at hi
      have et : l.take (i + 1) = l.take i ++ [b] := take_snoc hb
      have hlen : row.length ≤ 2000 := by
        have := eg.len
        rw [List.length_take] at this
        omega
      refine st_seq (st_set (v := V.int (nextRun row run last b)) ?_ ?_)
      · intro R q
        refine ⟨_, rfl, _, .inl ⟨_, SqL.of h8, rfl⟩, ?_⟩
        unfold nextRun at q
        rcases eg.st with ⟨e, e2⟩ | ⟨r, e⟩
        · subst e
          rw [if_pos rfl] at q
          exact q
        · rw [if_neg (by rw [e]; simp)] at q
          have hne : (!(bvs row).isEmpty) = true := by rw [e, bvs_append]; cases bvs r <;> rfl
          rw [hne]
          refine ⟨_, rfl, _, rfl, p, _, _, bv last, rfl, rfl, SqL.of h8, ?_, _, rfl, ?_, _, rfl, ?_⟩
          · rw [e, bvs_append]
            exact atI_last _ _
          · cases last <;> cases b <;> rfl
          · refine ifB (decide (last = b)) (bv_eq _ _) (fun c => ?_) (fun c => ?_)
            · rw [if_pos (of_decide_eq_true c)] at q
              exact ⟨_, rfl, _, _, rfl, rfl, q⟩
            · rw [if_neg (of_decide_eq_false c)] at q
              exact q
      · -- row.append(bit)
        refine ⟨_, rfl, .inl ⟨rfl, _, SqL.of h8⟩, _, rfl, p, _, _, rfl, rfl, h8, ?_, ?_⟩
        · rw [bvs_length]
          exact Nat.lt_of_le_of_lt hlen (by decide)
        have s9 : Same H (upd H' p (.lst (bvs row ++ [bv b]))) := same_mut s8 np
        refine ⟨_, rfl, rfl, _, rfl, ?_⟩
        refine ifB (decide (nextRun row run last b = 5)) ?_ (fun c => ?_) (fun c => ?_)
        · rw [dec_int]
          rw [Bool.eq_iff_iff]
          simp
          omega
        · have c := of_decide_eq_true c
          refine ⟨_, rfl, .inl ⟨rfl, _, SqL.of upd_same⟩, _, rfl, _, _, rfl, rfl, p, _, _, rfl, rfl, upd_same, ?_, ?_⟩
          · rw [List.length_append, bvs_length]
            exact Nat.lt_of_le_of_lt (Nat.add_le_add_right hlen _) (by show 2000 + 1 < sizeLine; decide)
          · refine ⟨some (bv b), row ++ [b] ++ [!b], 1, !b, rfl, same_mut s9 np, ?_, by rw [et]; exact eg.more c⟩
            rw [upd_same, bvs_append, bvs_append]
            congr 3
            exact congrArg (fun z => [z]) (bv_not b)
        · have c := of_decide_eq_false c
          refine ⟨some (bv b), row ++ [b], nextRun row run last b, b, rfl, s9, ?_, by rw [et]; exact eg.less c⟩
          rw [upd_same, bvs_append]
          rfl
    · rintro σ H' ⟨v, row, run, last, rfl, s8, h8, eg⟩
      refine ⟨_, rfl, ?_⟩
      refine k _ p s8 np ?_
      rw [h8]
      have e := eg.eq []
      rw [bvs_length, List.take_length, List.append_nil, st_nil eg.lt, List.append_nil] at e
      rw [e]
end
end Cw

namespace Cw
open PySem PySem.Spec PyProof.Rows L2
open Ql84 (Bits numberOf sum)
/-! ### steps that the library lacks -/
section
variable {σ : L2.St} {H : Hp} {v : V} {ta tb : TE} {t : TT} {D : Ends} {t1 t2 : TS}
theorem val_if1 (h : Ans t σ H true) (ha : Val ta σ H v) : Val (tIf t ta tb) σ H v := by
  intro Q q
  refine h _ ?_
  show (if true = true then ta σ H Q else tb σ H Q)
  rw [if_pos rfl]
  exact ha Q q
theorem val_if0 (h : Ans t σ H false) (hb : Val tb σ H v) : Val (tIf t ta tb) σ H v := by
  intro Q q
  refine h _ ?_
  show (if false = true then ta σ H Q else tb σ H Q)
  rw [if_neg Bool.false_ne_true]
  exact hb Q q
theorem val_if {b : Bool} {v1 v0 : V} (h : Ans t σ H b) (ha : b = true → Val ta σ H v1) (hb : b = false → Val tb σ H v0) : Val (tIf t ta tb) σ H (if b = true then v1 else v0) := by
  cases b with
  | true => rw [if_pos rfl]; exact val_if1 h (ha rfl)
  | false => rw [if_neg Bool.false_ne_true]; exact val_if0 h (hb rfl)
/-- a statement leads to what the rest needs -/
theorem st_cut (R : L2.St → Hp → Prop) (h1 : ∀ N : L2.St → Hp → Prop, (∀ σ' H', R σ' H' → N σ' H') → t1 { D with nx := N } σ H) (h2 : ∀ σ' H', R σ' H' → t2 D σ' H') : tSeq t1 t2 D σ H := h1 _ h2
end
/-! ### the frame heard, as an object -/
def lov : Option Bool → V
  | none => .non
  | some b => bv b
theorem lov_scal (b : Bool) (o : Option Bool) : scal (bv b) (lov o) = true := by
  cases o with
  | none => rfl
  | some c => rfl
theorem lov_eq (b : Bool) (o : Option Bool) : decide (bv b = lov o) = decide (o = some b) := by
  cases o with
  | none => rfl
  | some c => cases b <;> cases c <;> decide
def hfs (l : Addr) (r : Nat) (lv : V) (a : Nat) : List (Str × V) := [("bits", .ref l), ("remainder", .int (r : Int)), ("last", lv), ("alike", .int (a : Int))]
structure HAt (C : Addr) (H : Hp) (hx l : Addr) (m : HM) : Prop where
  o : ∃ dx, H hx = some (.ins C dx (hfs l (sum m.seen) (lov m.last) m.run))
  l : H l = some (.lst (bvs m.seen))
theorem HAt.keep {C : Addr} {H H' : Hp} {hx l : Addr} {m : HM} (h : HAt C H hx l m) (k : ∀ b o, b = hx ∨ b = l → H b = some o → H' b = some o) : HAt C H' hx l m := by
  obtain ⟨⟨dx, e⟩, e2⟩ := h
  exact ⟨⟨dx, k _ _ (.inl rfl) e⟩, k _ _ (.inr rfl) e2⟩
theorem HAt.same {C : Addr} {H H' : Hp} {hx l : Addr} {m : HM} (h : HAt C H hx l m) (k : Same H H') : HAt C H' hx l m := h.keep fun b o _ e => k b o e
theorem HAt.ne {C : Addr} {H : Hp} {hx l : Addr} {m : HM} (h : HAt C H hx l m) : l ≠ hx := by
  obtain ⟨⟨dx, e⟩, e2⟩ := h
  intro q
  rw [q, e] at e2
  cases e2
theorem cut_bvs {s : Bits} {i j : Nat} (hi : i ≤ j) (hj : j ≤ s.length) : cutV (bvs s) (some (i : Int)) (some (j : Int)) = bvs ((s.drop i).take (j - i)) := by
  unfold cutV
  rw [HT.sIx_nat, HT.sIx_nat, bvs_length, Nat.min_eq_left (show i ≤ s.length by omega), Nat.min_eq_left hj]
  unfold bvs
  rw [← List.map_drop, ← List.map_take]
section
variable {P : Program} {w : World} {K : PySem.W.Frag} {mg : Str → Option Value} {base : Heap}
/-! ### number_of -/
theorem numberOf_snoc (l : Bits) (b : Bool) : numberOf (l ++ [b]) = 2 * numberOf l + b.toNat := by
  unfold Ql84.numberOf
  rw [List.foldl_append]
  rfl
def spNumberOf (K : PySem.W.Frag) : Sp := fun vs H Q _ => ∃ (a : Addr) (l : Bits), vs = [.ref a] ∧ SqL K H a (bvs l) ∧ l.length ≤ 60 ∧ Q (.int (numberOf l : Nat)) H
theorem ok_number_of (W : Env K mg) : FnOk P w K mg base CX0 1 W.f_number_of W.fd_number_of ["bits"] (spNumberOf K) := by
  refine W.d_number_of.F.ok sc_number_of (fun vs H Q E h => ?_) (fun cdv A outer s H vs Q E hr h => ?_)
  · obtain ⟨_, _, rfl, _⟩ := h
    rfl
  · obtain ⟨a, l, rfl, hS, hl, k⟩ := h
    refine ⟨_, (pss_cons (ps_set (i := 1) sc_number_of.nd rfl (Or.inl rfl) pe_int)
      (pss_cons (ps_for PassesOwn.never rfl (pi_list (pv 0)) (pg_name (i := 2) sc_number_of.nd rfl (Or.inl rfl)) (pss_one (ps_set (i := 1) sc_number_of.nd rfl (Or.inl rfl) (pe_op op_add (pe_op op_mul (pv 1) pe_int) (pv 2)))))
      (pss_one (ps_ret (pv 1))))), ?_⟩
    refine ⟨_, rfl, a, rfl, ⟨_, hS⟩, for_list (K := K) (a := a) (xs := bvs l) (fun i σ H' => ∃ v : Option V, σ = [some (.ref a), some (.int (numberOf (l.take i) : Nat)), v] ∧ H' = H) ⟨none, rfl, rfl⟩ (fun i σ H' _ ⟨_, _, e⟩ => by rw [e]; exact hS) ?_ ?_⟩
    · rintro i y σ H' hi ⟨v, rfl, rfl⟩
      obtain ⟨b, hb, rfl⟩ := bvs_at hi
      have hn : numberOf (l.take i) < 2 ^ 64 := by
        refine Nat.lt_of_lt_of_le (numberOf_lt _) (Nat.pow_le_pow_right (by decide) ?_)
        rw [List.length_take]
        omega
      refine ⟨_, rfl, _, _, rfl, rfl, .inl ⟨?_, ?_⟩, _, rfl, _, _, rfl, rfl, ?_⟩
      · show -(2 ^ 64 : Int) < ((numberOf (l.take i) : Nat) : Int)
        omega
      · show ((numberOf (l.take i) : Nat) : Int) < (2 ^ 64 : Int)
        omega
      refine ⟨some (bv b), ?_, rfl⟩
      rw [take_snoc hb, numberOf_snoc]
      have e : ((numberOf (l.take i) : Nat) : Int) * 2 + (b.toNat : Int) = ((2 * numberOf (l.take i) + b.toNat : Nat) : Int) := by omega
      rw [← e]
      rfl
    · rintro σ H' ⟨v, rfl, rfl⟩
      refine ⟨_, rfl, ?_⟩
      have e : l.take (bvs l).length = l := by rw [bvs_length, List.take_length]
      rw [e]
      exact k
/-! ### HeardFrame -/
def spHInit (C : Addr) : Sp := fun vs H Q _ => ∃ (x dx : Addr), vs = [.ref x] ∧ H x = some (.ins C dx []) ∧ ∀ H' l, H l = none → HAt C H' x l HM.new → (∀ b o, H b = some o → b ≠ x → H' b = some o) → Q .non H'
theorem ok_hinit (W : Env K mg) : FnOk P w K mg base CX0 1 W.f_hinit W.fd_hinit ["self"] (spHInit W.HC) := by
  refine W.d_hinit.F.ok sc_hinit (fun vs H Q E h => ?_) (fun cdv A outer s H vs Q E hr h => ?_)
  · obtain ⟨_, _, rfl, _⟩ := h
    rfl
  · obtain ⟨x, dx, rfl, hx, k⟩ := h
    refine ⟨_, (pss_cons (ps_fld (pv 0) (pe_lst pa_nil) rfl)
      (pss_cons (ps_fld (pv 0) pe_int rfl)
      (pss_cons (ps_fld (pv 0) pe_non rfl)
      (pss_one (ps_fld (pv 0) pe_int rfl))))), ?_⟩
    refine ⟨Nat.zero_le _, fun l nl => ?_⟩
    have hx1 : upd H l (.lst []) x = some (.ins W.HC dx []) := upd_old hx nl
    refine ⟨_, rfl, x, W.HC, dx, _, rfl, hx1, W.clH, W.n_bits, by decide, ?_⟩
    refine ⟨_, rfl, x, W.HC, dx, _, rfl, upd_same, W.clH, W.n_remainder, (by show 1 < 1000; decide), ?_⟩
    refine ⟨_, rfl, x, W.HC, dx, _, rfl, upd_same, W.clH, W.n_last, (by show 2 < 1000; decide), ?_⟩
    refine ⟨_, rfl, x, W.HC, dx, _, rfl, upd_same, W.clH, W.n_alike, (by show 3 < 1000; decide), ?_⟩
    have lx : l ≠ x := fun e => by rw [e, hx] at nl; cases nl
    refine k _ l nl ⟨⟨dx, upd_same⟩, ?_⟩ ?_
    · rw [upd_ne lx, upd_ne lx, upd_ne lx, upd_ne lx, upd_same]
      rfl
    · intro b o e ne
      rw [upd_ne ne, upd_ne ne, upd_ne ne, upd_ne ne]
      exact upd_old e nl
def spLength (C : Addr) : Sp := fun vs H Q _ => ∃ (x l : Addr) (m : HM), vs = [.ref x] ∧ HAt C H x l m ∧ 19 ≤ m.seen.length ∧ ∀ H', Same H H' → Q (.int (told4 m.seen : Nat)) H'
theorem ok_length (W : Env K mg) : FnOk P w K mg base CX0 2 W.f_length W.fd_length ["self"] (spLength W.HC) := by
  refine W.d_length.F.ok sc_length (fun vs H Q E h => ?_) (fun cdv A outer s H vs Q E hr h => ?_)
  · obtain ⟨_, _, _, rfl, _⟩ := h
    rfl
  · obtain ⟨x, l, m, rfl, ⟨⟨dx, hx⟩, hl⟩, h19, k⟩ := h
    refine ⟨_, (pss_one (ps_ret (pe_call (ok_number_of W) (hr.mono (by decide)) rfl W.d_number_of.m W.d_number_of.F.kp W.d_number_of.b .nil pass0 (pa_cons (pe_slice sl_list (pe_fld (pv 0) rfl) (po_some (pgI W.g_LENGTH_AT)) (po_some (pgI W.g_HEAD_BITS))) pa_nil)))), ?_⟩
    refine ⟨_, rfl, x, W.HC, dx, _, _, rfl, hx, W.clH, W.n_bits, rfl, _, rfl, _, rfl, l, _, rfl, SqL.of hl, fun p np => ?_⟩
    refine ⟨p, (m.seen.drop 15).take 4, rfl, SqL.of ?_, ?_, k _ (same_upd np)⟩
    · rw [upd_same]
      exact congrArg (fun z => some (HO.lst z)) (cut_bvs (s := m.seen) (i := 15) (j := 19) (by decide) h19)
    · rw [List.length_take]
      omega
def spSumAt (C : Addr) : Sp := fun vs H Q _ => ∃ (x l : Addr) (m : HM), vs = [.ref x] ∧ HAt C H x l m ∧ 19 ≤ m.seen.length ∧ ∀ H', Same H H' → Q (.int ((19 + 8 * told4 m.seen : Nat) : Int)) H'
theorem ok_sum_at (W : Env K mg) : FnOk P w K mg base CX0 3 W.f_sum_at W.fd_sum_at ["self"] (spSumAt W.HC) := by
  refine W.d_sum_at.F.ok sc_sum_at (fun vs H Q E h => ?_) (fun cdv A outer s H vs Q E hr h => ?_)
  · obtain ⟨_, _, _, rfl, _⟩ := h
    rfl
  · obtain ⟨x, l, m, rfl, ha, h19, k⟩ := h
    obtain ⟨dx, hx⟩ := ha.o
    refine ⟨_, (pss_one (ps_ret (pe_op op_add (pgI W.g_HEAD_BITS) (pe_op op_mul (pgI W.g_BYTE_BITS) (pe_meth0 (pv 0) W.clH W.d_length.m (ok_length W) (hr.mono (by decide)) W.d_length.b .nil pass0))))), ?_⟩
    refine ⟨_, rfl, x, dx, _, rfl, hx, rfl, x, l, m, rfl, ha, h19, fun H' s => ?_⟩
    refine ⟨_, _, rfl, rfl, .inl ⟨by decide, by decide⟩, _, _, rfl, rfl, ?_⟩
    exact k H' s
def spIsRanked (C : Addr) : Sp := fun vs H Q _ => ∃ (x l : Addr) (m : HM), vs = [.ref x] ∧ HAt C H x l m ∧ Q (.bl (decide (12 ≤ m.seen.length))) H
theorem ok_is_ranked (W : Env K mg) : FnOk P w K mg base CX0 1 W.f_is_ranked W.fd_is_ranked ["self"] (spIsRanked W.HC) := by
  refine W.d_is_ranked.F.ok sc_is_ranked (fun vs H Q E h => ?_) (fun cdv A outer s H vs Q E hr h => ?_)
  · obtain ⟨_, _, _, rfl, _⟩ := h
    rfl
  · obtain ⟨x, l, m, rfl, ⟨⟨dx, hx⟩, hl⟩, k⟩ := h
    refine ⟨_, (pss_one (ps_ret (pe_cmpR op_ge (pe_callB call_len_seq (by rfl) W.len PySem.boot_len (pa_cons (pe_fld (pv 0) rfl) pa_nil)) (pgI W.g_RANK_BITS) (nomark _)))), ?_⟩
    refine ⟨_, rfl, x, W.HC, dx, _, _, rfl, hx, W.clH, W.n_bits, rfl, l, _, rfl, .inl (SqL.of hl), _, _, rfl, rfl, ?_⟩
    have e : decide ((12 : Int) ≤ ((bvs m.seen).length : Int)) = decide (12 ≤ m.seen.length) := by
      rw [bvs_length, Bool.eq_iff_iff, decide_eq_true_iff, decide_eq_true_iff]
      omega
    show Q (.bl (decide ((12 : Int) ≤ ((bvs m.seen).length : Int)))) H
    rw [e]
    exact k
def spSumIsRight (C : Addr) : Sp := fun vs H Q _ => ∃ (x l : Addr) (m : HM), vs = [.ref x] ∧ HAt C H x l m ∧ Q (.bl (decide (sum m.seen = 0))) H
theorem ok_sum_is_right (W : Env K mg) : FnOk P w K mg base CX0 1 W.f_sum_is_right W.fd_sum_is_right ["self"] (spSumIsRight W.HC) := by
  refine W.d_sum_is_right.F.ok sc_sum_is_right (fun vs H Q E h => ?_) (fun cdv A outer s H vs Q E hr h => ?_)
  · obtain ⟨_, _, _, rfl, _⟩ := h
    rfl
  · obtain ⟨x, l, m, rfl, ⟨⟨dx, hx⟩, hl⟩, k⟩ := h
    refine ⟨_, (pss_one (ps_ret (pe_cmpR op_eq (pe_fld (pv 0) rfl) pe_int (nomark _)))), ?_⟩
    refine ⟨_, rfl, x, W.HC, dx, _, _, rfl, hx, W.clH, W.n_remainder, rfl, rfl, ?_⟩
    have e : decide (V.int ((sum m.seen : Nat) : Int) = V.int 0) = decide (sum m.seen = 0) := by
      rw [dec_int, Bool.eq_iff_iff, beq_iff_eq, decide_eq_true_iff]
      omega
    show Q (.bl (decide (V.int ((sum m.seen : Nat) : Int) = V.int 0))) H
    rw [e]
    exact k
def spMayGoOn (C : Addr) : Sp := fun vs H Q _ => ∃ (x l : Addr) (m : HM) (s : Bits) (b : Bool), vs = [.ref x] ∧ HAt C H x l m ∧ m.seen = s ++ [b] ∧ ∀ H', Same H H' → Q (.bl (goOn s b)) H'
theorem ok_may_go_on (W : Env K mg) : FnOk P w K mg base CX0 3 W.f_may_go_on W.fd_may_go_on ["self"] (spMayGoOn W.HC) := by
  refine W.d_may_go_on.F.ok sc_may_go_on (fun vs H Q E h => ?_) (fun cdv A outer s H vs Q E hr h => ?_)
  · obtain ⟨_, _, _, _, _, rfl, _⟩ := h
    rfl
  · obtain ⟨x, l, m, s, b, rfl, ha, hm, k⟩ := h
    obtain ⟨dx, hx⟩ := ha.o
    have hl := ha.l
    refine ⟨_, (pss_cons (ps_set (i := 1) sc_may_go_on.nd rfl (Or.inl rfl) (pe_callB call_len_seq (by rfl) W.len PySem.boot_len (pa_cons (pe_fld (pv 0) rfl) pa_nil)))
      (pss_cons (ps_if (pt_chain op_lt op_le (pgI W.g_RANK_BITS) (pv 1) (pgI W.g_LENGTH_AT)) (pss_one (ps_ret (pe_cmpR op_eq (pe_ix ix_list (pe_fld (pv 0) rfl) (pe_un un_neg pe_int) (fun _ _ => rfl)) pe_int (nomark _)))) pss_nil)
      (pss_one (ps_ret (pe_or (pe_cmpR op_ne (pv 1) (pgI W.g_HEAD_BITS) (nomark _)) (pe_one (pe_cmpR op_le (pe_meth0 (pv 0) W.clH W.d_length.m (ok_length W) (hr.mono (by decide)) W.d_length.b .nil pass0) (pgI W.g_MOST_BYTES) (nomark _)))))))), ?_⟩
    have el : (((bvs m.seen).length : Nat) : Int) = ((s.length + 1 : Nat) : Int) := by
      rw [bvs_length, hm, List.length_append]
      rfl
    refine st_seq (st_set (v := V.int ((s.length + 1 : Nat) : Int)) ?_ ?_)
    · intro R q
      refine ⟨_, rfl, x, W.HC, dx, _, _, rfl, hx, W.clH, W.n_bits, rfl, l, _, rfl, .inl (SqL.of hl), ?_⟩
      rw [el]
      exact q
    unfold goOn at k
    -- the last way: not the three bits
    have last : ¬ (12 < s.length + 1 ∧ s.length + 1 ≤ 15) → ∀ R : VK, (∀ H', Same H H' → R (.bl (goOn s b)) H') → tOrV (tOp rNe (tVar 1) (tC (.int 19))) (tOp (rI0 fun i j => .bl (decide (i ≤ j))) (tMeth W.HC "length" (spLength W.HC) [] (fun _ _ _ => False) (tVar 0) tNil) (tC (.int 8))) [some (.ref x), some (.int ((s.length + 1 : Nat) : Int))] H R := by
      intro c R k'
      unfold goOn at k'
      rw [if_neg c] at k'
      refine ⟨_, rfl, rfl, _, rfl, ?_⟩
      refine ifB (!decide (s.length + 1 = 19)) ?_ (fun d => ?_) (fun d => ?_)
      · show (!decide (V.int ((s.length + 1 : Nat) : Int) = V.int 19)) = _
        congr 1
        rw [dec_int, Bool.eq_iff_iff, beq_iff_eq, decide_eq_true_iff]
        omega
      · rw [d] at k'
        exact k' H (Same.refl H)
      · rw [d] at k'
        have h19 : s.length + 1 = 19 := by
          have := congrArg (fun z => !z) d
          simp at this
          omega
        refine ⟨_, rfl, x, dx, _, rfl, hx, rfl, x, l, m, rfl, ha, ?_, fun H' s1 => ⟨_, _, rfl, rfl, ?_⟩⟩
        · rw [hm, List.length_append]
          show 19 ≤ s.length + 1
          omega
        · have e : decide (((told4 m.seen : Nat) : Int) ≤ 8) = decide (told4 (s ++ [b]) ≤ 8) := by
            rw [hm, Bool.eq_iff_iff, decide_eq_true_iff, decide_eq_true_iff]
            omega
          show R (.bl (decide (((told4 m.seen : Nat) : Int) ≤ 8))) H'
          rw [e]
          exact k' H' s1
    refine ⟨_, rfl, _, _, rfl, rfl, _, rfl, ?_⟩
    refine ifB (decide (12 < s.length + 1)) ?_ (fun c => ?_) (fun c => ?_)
    · show decide ((12 : Int) < ((s.length + 1 : Nat) : Int)) = _
      rw [Bool.eq_iff_iff, decide_eq_true_iff, decide_eq_true_iff]
      omega
    · have c := of_decide_eq_true c
      refine ⟨_, _, rfl, rfl, _, rfl, ?_⟩
      refine ifB (decide (s.length + 1 ≤ 15)) ?_ (fun d => ?_) (fun d => ?_)
      · show decide (((s.length + 1 : Nat) : Int) ≤ (15 : Int)) = _
        rw [Bool.eq_iff_iff, decide_eq_true_iff, decide_eq_true_iff]
        omega
      · have d := of_decide_eq_true d
        rw [if_pos ⟨c, d⟩] at k
        refine ⟨_, rfl, x, W.HC, dx, _, _, rfl, hx, W.clH, W.n_bits, rfl, _, rfl, l, _, _, bv b, rfl, rfl, SqL.of hl, ?_, ?_, ?_⟩
        · rw [hm, bvs_append]
          exact atI_last _ _
        · cases b <;> rfl
        · have e : decide (bv b = V.int 0) = !b := by cases b <;> decide
          show Q (.bl (decide (bv b = V.int 0))) H
          rw [e]
          exact k H (Same.refl H)
      · have d := of_decide_eq_false d
        exact last (fun z => d z.2) Q k
    · have c := of_decide_eq_false c
      refine ⟨_, rfl, ?_⟩
      refine ifB false rfl (fun z => nomatch z) (fun _ => ?_)
      exact last (fun z => c z.1) Q k
def spIsWhole (C : Addr) : Sp := fun vs H Q _ => ∃ (x l : Addr) (m : HM), vs = [.ref x] ∧ HAt C H x l m ∧ ∀ H', Same H H' → Q (.bl m.whole) H'
theorem ok_is_whole (W : Env K mg) : FnOk P w K mg base CX0 4 W.f_is_whole W.fd_is_whole ["self"] (spIsWhole W.HC) := by
  refine W.d_is_whole.F.ok sc_is_whole (fun vs H Q E h => ?_) (fun cdv A outer s H vs Q E hr h => ?_)
  · obtain ⟨_, _, _, rfl, _⟩ := h
    rfl
  · obtain ⟨x, l, m, rfl, ha, k⟩ := h
    obtain ⟨dx, hx⟩ := ha.o
    have hl := ha.l
    refine ⟨_, (pss_cons (ps_set (i := 1) sc_is_whole.nd rfl (Or.inl rfl) (pe_callB call_len_seq (by rfl) W.len PySem.boot_len (pa_cons (pe_fld (pv 0) rfl) pa_nil)))
      (pss_cons (ps_if (PW.pt (pw_or (pt_cmpR op_lt (pv 1) (pgI W.g_HEAD_BITS) (nomark _)) (pw_or1 (pt_cmpR op_eq (pe_fld (pv 0) rfl) (pgI W.g_MOST_ALIKE) (nomark _))))) (pss_one (ps_ret pe_bl)) pss_nil)
      (pss_one (ps_ret (pe_cmpR op_eq (pv 1) (pe_op op_add (pe_meth0 (pv 0) W.clH W.d_sum_at.m (ok_sum_at W) (hr.mono (by decide)) W.d_sum_at.b .nil pass0) (pgI W.g_SUM_BITS)) (nomark _)))))), ?_⟩
    refine st_seq (st_set (v := V.int ((m.seen.length : Nat) : Int)) ?_ ?_)
    · intro R q
      refine ⟨_, rfl, x, W.HC, dx, _, _, rfl, hx, W.clH, W.n_bits, rfl, l, _, rfl, .inl (SqL.of hl), ?_⟩
      rw [bvs_length]
      exact q
    unfold HM.whole at k
    refine ⟨_, rfl, _, _, rfl, rfl, _, rfl, ?_⟩
    refine ifB (decide (m.seen.length < 19)) ?_ (fun c => ?_) (fun c => ?_)
    · show decide (((m.seen.length : Nat) : Int) < (19 : Int)) = _
      rw [Bool.eq_iff_iff, decide_eq_true_iff, decide_eq_true_iff]
      omega
    · have c := of_decide_eq_true c
      rw [decide_eq_false (by omega)] at k
      refine ifB true rfl (fun _ => ?_) (fun z => nomatch z)
      exact k H (Same.refl H)
    · have c := of_decide_eq_false c
      refine ⟨_, rfl, x, W.HC, dx, _, _, rfl, hx, W.clH, W.n_alike, rfl, rfl, _, rfl, ?_⟩
      refine ifB (decide (m.run = 5)) ?_ (fun d => ?_) (fun d => ?_)
      · show decide (V.int ((m.run : Nat) : Int) = V.int 5) = _
        rw [dec_int, Bool.eq_iff_iff, beq_iff_eq, decide_eq_true_iff]
        omega
      · have d := of_decide_eq_true d
        rw [decide_eq_false (fun z => z.2.2 d)] at k
        exact k H (Same.refl H)
      · have d := of_decide_eq_false d
        refine ⟨_, rfl, _, rfl, x, dx, _, rfl, hx, rfl, x, l, m, rfl, ha, by omega, fun H' s1 => ?_⟩
        refine ⟨_, _, rfl, rfl, rfl, ?_⟩
        have e : decide (V.int ((m.seen.length : Nat) : Int) = V.int (((19 + 8 * told4 m.seen : Nat) : Int) + 15)) = decide (19 ≤ m.seen.length ∧ m.seen.length = 34 + 8 * told4 m.seen ∧ m.run ≠ 5) := by
          rw [dec_int, Bool.eq_iff_iff, beq_iff_eq, decide_eq_true_iff]
          constructor
          · intro z
            exact ⟨by omega, by omega, d⟩
          · rintro ⟨_, z, _⟩
            omega
        show Q (.bl (decide (V.int ((m.seen.length : Nat) : Int) = V.int (((19 + 8 * told4 m.seen : Nat) : Int) + 15)))) H'
        rw [e]
        exact k H' s1
def spTake (C : Addr) : Sp := fun vs H Q _ => ∃ (x l : Addr) (m : HM) (b : Bool), vs = [.ref x, bv b] ∧ HAt C H x l m ∧ m.seen.length ≤ 1000 ∧ ∀ H', HAt C H' x l (m.take b).1 → (∀ c o, H c = some o → c ≠ x → c ≠ l → H' c = some o) → Q (.bl (m.take b).2) H'
theorem ok_take (W : Env K mg) : FnOk P w K mg base CX0 4 W.f_take W.fd_take ["self", "bit"] (spTake W.HC) := by
  refine W.d_take.F.ok sc_take (fun vs H Q E h => ?_) (fun cdv A outer s H vs Q E hr h => ?_)
  · obtain ⟨_, _, _, _, rfl, _⟩ := h
    rfl
  · obtain ⟨x, l, m, b, rfl, ha, hlen, k⟩ := h
    obtain ⟨dx, hx⟩ := ha.o
    have hl := ha.l
    have lx := ha.ne
    refine ⟨_, (pss_cons (ps_set (i := 2) sc_take.nd rfl (Or.inl rfl) (pe_cmpR op_eq (pe_fld (pv 0) rfl) (pgI W.g_MOST_ALIKE) (nomark _)))
      (pss_cons (ps_if (PW.pt (pw_and (pt_val (pv 2)) (pw_and1 (pt_cmpR op_eq (pv 1) (pe_fld (pv 0) rfl) (nomark _))))) (pss_one (ps_ret pe_bl)) pss_nil)
      (pss_cons (ps_fld (pv 0) (pe_ifExp (pt_cmpR op_eq (pv 1) (pe_fld (pv 0) rfl) (nomark _)) (pe_op op_add (pe_fld (pv 0) rfl) pe_int) pe_int) rfl)
      (pss_cons (ps_fld (pv 0) (pv 1) rfl)
      (pss_cons (ps_if (pt_val (pv 2)) (pss_one (ps_ret pe_bl)) pss_nil)
      (pss_cons (ps_expr (pe_bm PySem.F.plainAttrs_list PySem.F.slot_list_append PySem.F.type_list_append mt_append (pe_fld (pv 0) rfl) (pa_cons (pv 1) pa_nil)))
      (pss_cons (ps_fld (pv 0) (pe_call (ok_sum_with W) (hr.mono (by decide)) rfl W.d_sum_with.m W.d_sum_with.F.kp W.d_sum_with.b .nil pass0 (pa_cons (pe_fld (pv 0) rfl) (pa_cons (pv 1) pa_nil))) rfl)
      (pss_one (ps_ret (pe_meth0 (pv 0) W.clH W.d_may_go_on.m (ok_may_go_on W) (hr.mono (by decide)) W.d_may_go_on.b .nil pass0)))))))))), ?_⟩
    have e5 : decide (V.int ((m.run : Nat) : Int) = V.int 5) = decide (m.run = 5) := by
      rw [dec_int, Bool.eq_iff_iff, beq_iff_eq, decide_eq_true_iff]
      omega
    unfold HM.take at k
    -- is_stuffed
    refine st_seq (st_set (v := V.bl (decide (m.run = 5))) ?_ ?_)
    · intro R q
      refine ⟨_, rfl, x, W.HC, dx, _, _, rfl, hx, W.clH, W.n_alike, rfl, rfl, ?_⟩
      rw [← e5] at q
      exact q
    -- the field alike, and last
    have step : ∀ (st : Bool), st = decide (m.run = 5) → ¬ (st = true ∧ m.last = some b) →
        ∀ (D : Ends) (t2 : TS), (t2 D [some (.ref x), some (bv b), some (.bl st)] (upd H x (.ins W.HC dx (hfs l (sum m.seen) (bv b) (if m.last = some b then m.run + 1 else 1))))) →
        tSeq (sFld K (tVar 0) (tIf (tTest (tOp rEq (tVar 1) (tFld K (tVar 0) "last"))) (tOp (rI0 fun i j => .int (i + j)) (tFld K (tVar 0) "alike") (tC (.int 1))) (tC (.int 1))) "alike") (tSeq (sFld K (tVar 0) (tVar 1) "last") t2) D [some (.ref x), some (bv b), some (.bl st)] H := by
      intro st _ _ D t2 q
      refine st_seq (st_fld (K := K) (a := x) (C := W.HC) (dx := dx) (fs := hfs l (sum m.seen) (lov m.last) m.run) (y := .int ((if m.last = some b then m.run + 1 else 1 : Nat) : Int)) ?_ (val_var rfl) hx W.clH W.n_alike (by show 4 < 1000; decide) ?_)
      · intro R r
        refine ⟨_, rfl, _, rfl, x, W.HC, dx, _, _, rfl, hx, W.clH, W.n_last, rfl, lov_scal b m.last, _, rfl, ?_⟩
        refine ifB (decide (m.last = some b)) (lov_eq b m.last) (fun c => ?_) (fun c => ?_)
        · rw [if_pos (of_decide_eq_true c)] at r
          exact ⟨_, rfl, x, W.HC, dx, _, _, rfl, hx, W.clH, W.n_alike, rfl, _, _, rfl, rfl, r⟩
        · rw [if_neg (of_decide_eq_false c)] at r
          exact r
      · refine st_seq (st_fld (K := K) (a := x) (C := W.HC) (dx := dx) (fs := hfs l (sum m.seen) (lov m.last) (if m.last = some b then m.run + 1 else 1)) (y := bv b) (val_var rfl) (val_var rfl) upd_same W.clH W.n_last (by show 4 < 1000; decide) ?_)
        rw [upd_upd]
        exact q
    by_cases c : m.run = 5
    · rw [if_pos c] at k
      by_cases d : m.last = some b
      · rw [if_pos d] at k
        refine st_seq (st_yes (ans_and2 (b1 := true) (b2 := true) (ans_val (val_var ?_)) (ans_eq (val_var rfl) (val_fld (val_var rfl) hx W.clH W.n_last rfl) (lov_scal b m.last) ?_)) ?_)
        · rw [decide_eq_true c]
          rfl
        · rw [lov_eq, d]
          exact decide_eq_true rfl
        · exact k H ha (fun _ _ e _ _ => e)
      · rw [if_neg d] at k
        refine st_seq (st_no (ans_and2 (b1 := true) (b2 := false) (ans_val (val_var ?_)) (ans_eq (val_var rfl) (val_fld (val_var rfl) hx W.clH W.n_last rfl) (lov_scal b m.last) ?_)) ?_)
        · rw [decide_eq_true c]
          rfl
        · rw [lov_eq]
          exact decide_eq_false d
        · refine step _ rfl (fun z => d z.2) _ _ ?_
          refine st_seq (st_yes (ans_val (val_var ?_)) ?_)
          · rw [decide_eq_true c]
            rfl
          · rw [if_neg d]
            refine k _ ⟨⟨dx, upd_same⟩, ?_⟩ (fun b o e ne _ => by rw [upd_ne ne]; exact e)
            rw [upd_ne lx]
            exact hl
    · rw [if_neg c] at k
      refine st_seq (st_no (ans_and0 (ans_val (val_var ?_))) ?_)
      · rw [decide_eq_false c]
        rfl
      refine step _ rfl (fun z => c (of_decide_eq_true z.1)) _ _ ?_
      refine st_seq (st_no (ans_val (val_var ?_)) ?_)
      · rw [decide_eq_false c]
        rfl
      obtain ⟨r', er⟩ : ∃ r', r' = (if m.last = some b then m.run + 1 else 1) := ⟨_, rfl⟩
      rw [← er] at k ⊢
      -- self.bits.append(bit)
      have hl1 : upd H x (.ins W.HC dx (hfs l (sum m.seen) (bv b) r')) l = some (.lst (bvs m.seen)) := by
        rw [upd_ne lx]
        exact hl
      refine ⟨_, rfl, x, W.HC, dx, _, _, rfl, upd_same, W.clH, W.n_bits, rfl, .inl ⟨rfl, _, SqL.of hl1⟩, _, rfl, l, _, _, rfl, rfl, hl1, ?_, ?_⟩
      · rw [bvs_length]
        exact Nat.lt_of_le_of_lt hlen (by decide)
      have hx2 : upd (upd H x (.ins W.HC dx (hfs l (sum m.seen) (bv b) r'))) l (.lst (bvs m.seen ++ [bv b])) x = some (.ins W.HC dx (hfs l (sum m.seen) (bv b) r')) := by
        rw [upd_ne (Ne.symm lx), upd_same]
      -- self.remainder = sum_with(self.remainder, bit)
      refine ⟨_, rfl, x, W.HC, dx, _, _, rfl, hx2, W.clH, W.n_remainder, rfl, _, rfl, sum m.seen, b, rfl, sum_lt _ _ (by decide), ?_⟩
      refine ⟨_, rfl, x, W.HC, dx, _, rfl, hx2, W.clH, W.n_remainder, (by show 4 < 1000; decide), ?_⟩
      -- return self.may_go_on()
      have hA : HAt W.HC (upd (upd (upd H x (.ins W.HC dx (hfs l (sum m.seen) (bv b) r'))) l (.lst (bvs m.seen ++ [bv b]))) x (.ins W.HC dx (hfs l (Ql84.sumStep (sum m.seen) b) (bv b) r'))) x l ⟨m.seen ++ [b], some b, r'⟩ := by
        refine ⟨⟨dx, ?_⟩, ?_⟩
        · rw [upd_same]
          show _ = some (HO.ins W.HC dx (hfs l (sum (m.seen ++ [b])) (bv b) r'))
          rw [sum_snoc]
        · rw [upd_ne lx, upd_same]
          show _ = some (HO.lst (bvs (m.seen ++ [b])))
          rw [bvs_append]
          rfl
      refine ⟨_, rfl, x, dx, _, rfl, upd_same, rfl, x, l, ⟨m.seen ++ [b], some b, r'⟩, m.seen, b, rfl, hA, rfl, fun H' s1 => ?_⟩
      refine k H' (hA.same s1) (fun c o e n1 n2 => s1 c o ?_)
      rw [upd_ne n1, upd_ne n2, upd_ne n1]
      exact e
end
end Cw

namespace Cw
open PySem PySem.Spec PyProof.Rows L2
/-! ### the calls, one behind another -/
theorem turn_split {l t : List Int} {c : List (List Int)} (T : Turn l c t) : ∃ l', l = l' ++ t ∧ Turn l' c [] ∧ 0 < l'.length := by
  cases T with
  | begin_ => exact ⟨[0], rfl, .begin_ [], by decide⟩
  | send id n b => exact ⟨1 :: id :: n :: (b.length : Int) :: (b ++ []), by simp, .send id n b [], by simp⟩
  | out => exact ⟨[2], rfl, .out [], by decide⟩
  | hear b => exact ⟨[3, b], rfl, .hear b [], by simp⟩
  | look => exact ⟨[4], rfl, .look [], by decide⟩
  | count w => exact ⟨[5, w], rfl, .count w [], by simp⟩
theorem feed_nil {cs : List (List (List Int))} (h : Feed [] cs) : cs = [] := by
  cases h with
  | nil => rfl
  | cons T _ => cases T
def ivs (l : List Int) : List V := l.map V.int
theorem ivs_length (l : List Int) : (ivs l).length = l.length := List.length_map _
theorem ivs_append (a b : List Int) : ivs (a ++ b) = ivs a ++ ivs b := List.map_append
theorem cut_ivs {ns l t : List Int} {i : Nat} (h : ns.drop i = l ++ t) (hi : i ≤ ns.length) : cutV (ivs ns) (some (i : Int)) (some ((i + l.length : Nat) : Int)) = ivs l := by
  have hl : i + l.length ≤ ns.length := by
    have := congrArg List.length h
    rw [List.length_drop, List.length_append] at this
    omega
  unfold cutV
  rw [HT.sIx_nat, HT.sIx_nat, ivs_length, Nat.min_eq_left hi, Nat.min_eq_left hl]
  unfold ivs
  rw [← List.map_drop, ← List.map_take, h, show i + l.length - i = l.length by omega, List.take_left]
/-- a node that stands at x, its own lists at A, is at the state s: what is asked of such a relation -/
structure Nodes (NA : Hp → Addr → List Addr → Ql84.St → Prop) : Prop where
  keep : ∀ {H H' : Hp} {x : Addr} {A : List Addr} {s : Ql84.St}, NA H x A s → (∀ b o, b = x ∨ b ∈ A → H b = some o → H' b = some o) → NA H' x A s
  self : ∀ {H : Hp} {x : Addr} {A : List Addr} {s : Ql84.St}, NA H x A s → ∃ o, H x = some o
  all : ∀ {H : Hp} {x : Addr} {A : List Addr} {s : Ql84.St}, NA H x A s → ∀ b ∈ A, ∃ o, H b = some o
/-- all but the node's own is as it was -/
def Apart (H H' : Hp) (x : Addr) (A : List Addr) : Prop := ∀ b o, H b = some o → b ≠ x → b ∉ A → H' b = some o
def Grown (H : Hp) (A A' : List Addr) : Prop := ∀ b ∈ A', b ∈ A ∨ H b = none
section
variable {P : Program} {w : World} {K : PySem.W.Frag} {mg : Str → Option Value} {base : Heap} {NA : Hp → Addr → List Addr → Ql84.St → Prop}
def spEndOfCall (K : PySem.W.Frag) : Sp := fun vs H Q _ => ∃ (a : Addr) (ns l t : List Int) (i : Nat) (c : List (List Int)), vs = [.ref a, .int i] ∧ SqL K H a (ivs ns) ∧ ns.drop i = l ++ t ∧ Turn l c [] ∧ Q (.int ((i + l.length : Nat) : Int)) H
def spAnswerTo (NA : Hp → Addr → List Addr → Ql84.St → Prop) : Sp := fun vs H Q _ => ∃ (x c : Addr) (A : List Addr) (s : Ql84.St) (l : List Int) (cl : List (List Int)), vs = [.ref x, .ref c] ∧ NA H x A s ∧ H c = some (.lst (ivs l)) ∧ c ≠ x ∧ c ∉ A ∧ Turn l cl [] ∧ Ql84Neutral.asked1 cl = true ∧ Wf s ∧
  ∀ H' A' p, NA H' x A' (stepS s cl).1 → Grown H A A' → Apart H H' x A → H p = none → H' p = some (.lst (ivs (stepS s cl).2)) → Q (.ref p) H'
def spInit (C : Addr) (NA : Hp → Addr → List Addr → Ql84.St → Prop) : Sp := fun vs H Q _ => ∃ (x dx : Addr), vs = [.ref x] ∧ H x = some (.ins C dx []) ∧ ∀ H', NA H' x [] Ql84.begun → (∀ b o, H b = some o → b ≠ x → H' b = some o) → Q .non H'
def spAnswers (K : PySem.W.Frag) : Sp := fun vs H Q _ => ∃ (a : Addr) (ns : List Int), vs = [.ref a] ∧ SqL K H a (ivs ns) ∧ PyQl84.answers_asked ns = true ∧ ∀ (H' : Hp) (p : Addr), H' p = some (.lst (ivs (PyQl84.answers ns))) → Q (.ref p) H'
theorem ok_answers (N : Nodes NA) (W : Env K mg) (GI : FnOk P w K mg base CX0 2 W.f_init W.fd_init ["self"] (spInit W.C NA)) (GE : FnOk P w K mg base CX0 1 W.f_end_of_call W.fd_end_of_call ["calls", "start"] (spEndOfCall K))
    (GA : FnOk P w K mg base CX0 8 W.f_answer_to W.fd_answer_to ["node", "call"] (spAnswerTo NA)) : FnOk P w K mg base CX0 9 W.f_answers W.fd_answers ["calls"] (spAnswers K) := by
  refine W.d_answers.F.ok sc_answers (fun vs H Q E h => ?_) (fun cdv A outer s H vs Q E hr h => ?_)
  · obtain ⟨_, _, rfl, _⟩ := h
    rfl
  · obtain ⟨a, ns, rfl, hS, hask, k⟩ := h
    refine ⟨_, (pss_cons (ps_set (i := 1) sc_answers.nd rfl (Or.inl rfl) (pe_make0 W.makes GI (hr.mono (by decide)) rfl W.mgC W.d_init.b .nil pass0))
      (pss_cons (ps_set (i := 2) sc_answers.nd rfl (Or.inl rfl) (pe_lst pa_nil))
      (pss_cons (ps_set (i := 3) sc_answers.nd rfl (Or.inl rfl) pe_int)
      (pss_cons (ps_while PassesOwn.never (pt_cmpR op_lt (pv 3) (pe_callB call_len_seq (by rfl) W.len PySem.boot_len (pa_cons (pv 0) pa_nil)) (nomark _)) (pss_cons (ps_set (i := 4) sc_answers.nd rfl (Or.inl rfl) (pe_call GE (hr.mono (by decide)) rfl W.d_end_of_call.m W.d_end_of_call.F.kp W.d_end_of_call.b .nil pass0 (pa_cons (pv 0) (pa_cons (pv 3) pa_nil))))
      (pss_cons (ps_set (i := 5) sc_answers.nd rfl (Or.inl rfl) (pe_call GA (hr.mono (by decide)) rfl W.d_answer_to.m W.d_answer_to.F.kp W.d_answer_to.b .nil pass0 (pa_cons (pv 1) (pa_cons (pe_slice sl_list (pv 0) (po_some (pv 3)) (po_some (pv 4))) pa_nil))))
      (pss_cons (ps_expr (pe_bm PySem.F.plainAttrs_list PySem.F.slot_list_append PySem.F.type_list_append mt_append (pv 2) (pa_cons (pe_callB call_len_seq (by rfl) W.len PySem.boot_len (pa_cons (pv 5) pa_nil)) pa_nil)))
      (pss_cons (ps_expr (pe_bm PySem.F.plainAttrs_list PySem.F.slot_list_extend PySem.F.type_list_extend mt_extend (pv 2) (pa_cons (pv 5) pa_nil)))
      (pss_one (ps_set (i := 3) sc_answers.nd rfl (Or.inl rfl) (pv 4))))))))
      (pss_one (ps_ret (pv 2))))))), ?_⟩
    obtain ⟨cs0, hF, hA1, hlen, hans⟩ := asked_feed hask
    rw [told_first] at hans
    -- node = Node()
    intro x dx nx ndx nex
    refine ⟨x, dx, rfl, upd_same, fun H1 NA1 kp1 => ⟨rfl, ?_⟩⟩
    have s1 : Same H H1 := Same.made nx ndx kp1
    have ax : ∀ {H' : Hp}, Same H H' → ∀ b, SqL K H b (ivs ns) → SqL K H' b (ivs ns) := fun s b h => s.seq h
    -- given = []; start = 0
    refine ⟨Nat.zero_le _, fun g ng => ?_⟩
    have ngH : H g = none := s1.free ng
    have gx : g ≠ x := by
      obtain ⟨o, ho⟩ := N.self NA1
      intro e
      rw [e, ho] at ng
      cases ng
    have NA2 : NA (upd H1 g (.lst [])) x [] Ql84.begun := N.keep NA1 fun b o hb e => by
      rcases hb with hb | hb
      · subst hb
        exact upd_old e ng
      · cases hb
    -- while start < len(calls)
    refine ⟨fun m σ H' => ∃ (i : Nat) (cs : List (List (List Int))) (st : Ql84.St) (A' : List Addr) (done : List Int) (v4 v5 : Option V), σ = [some (.ref a), some (.ref x), some (.ref g), some (.int (i : Int)), v4, v5] ∧ Same H H' ∧ NA H' x A' st ∧ g ∉ A' ∧ (∀ b ∈ A', H b = none) ∧ H' g = some (.lst (ivs done)) ∧ Wf st ∧
      Feed (ns.drop i) cs ∧ i ≤ ns.length ∧ (∀ c ∈ cs, Ql84Neutral.asked1 c = true) ∧ done ++ toldS st cs = PyQl84.answers ns ∧ done.length + 13 * cs.length ≤ 13 * 14000 ∧ m = cs.length, ⟨_, 0, [[0]] :: cs0, Ql84.begun, [], [], none, none, rfl, s1.trans (same_upd ng), NA2, by simp, by simp, upd_same, wf_begun, hF, Nat.zero_le _, ?_, hans.symm, ?_, rfl⟩, ?_⟩
    · intro c hc
      rcases List.mem_cons.mp hc with e | hc
      · subst e; rfl
      · exact hA1 c hc
    · show 0 + 13 * (cs0.length + 1) ≤ _
      omega
    · rintro m σ H' ⟨i, cs, st, A', done, v4, v5, rfl, s2, na, hg, hfr, hgd, wf, fd, hi, hask', htold, hsz, rfl⟩
      refine ⟨_, rfl, _, rfl, a, _, rfl, .inl (s2.seq hS), _, _, rfl, rfl, _, rfl, ?_⟩
      refine ifB (decide (i < ns.length)) ?_ (fun c => ?_) (fun c => ?_)
      · rw [Bool.eq_iff_iff, decide_eq_true_iff, decide_eq_true_iff, ivs_length]
        exact Int.ofNat_lt
      · have c := of_decide_eq_true c
        -- one call
        have hne : ns.drop i ≠ [] := by
          intro e
          have := congrArg List.length e
          rw [List.length_drop] at this
          simp at this
          omega
        obtain ⟨l0, hl0⟩ : ∃ l0, l0 = ns.drop i := ⟨_, rfl⟩
        rw [← hl0] at fd hne
        cases fd with
        | nil => exact absurd rfl hne
        | @cons _ t cl cs2 T F2 =>
          obtain ⟨l, el, T', hpos⟩ := turn_split T
          have hd : ns.drop i = l ++ t := by rw [← hl0, el]
          have hlen' : i + l.length + t.length = ns.length := by
            have := congrArg List.length hd
            rw [List.length_drop, List.length_append] at this
            omega
          have hstep := wf_step T (hask' cl (List.mem_cons_self ..)) wf
          refine ⟨_, fun σ' H2 h => h, ?_⟩
          -- end = end_of_call(calls, start)
          refine ⟨_, rfl, _, rfl, a, ns, l, t, i, cl, rfl, s2.seq hS, hd, T', ?_⟩
          -- answer = answer_to(node, calls[start:end])
          refine ⟨_, rfl, _, rfl, _, rfl, _, rfl, _, rfl, _, rfl, a, _, rfl, s2.seq hS, fun p np => ?_⟩
          have npH : H p = none := s2.free np
          have px : p ≠ x := by
            obtain ⟨o, ho⟩ := N.self na
            intro e
            rw [e, ho] at np
            cases np
          have pA : p ∉ A' := by
            intro e
            obtain ⟨o, ho⟩ := N.all na p e
            rw [ho] at np
            cases np
          refine ⟨x, p, A', st, l, cl, rfl, N.keep na fun b o _ e => upd_old e np, ?_, px, pA, T', hask' cl (List.mem_cons_self ..), wf, fun H3 A3 r na3 gr3 ap3 nr hr3 => ?_⟩
          · rw [upd_same, cut_ivs hd hi]
          have hg1 : upd H' p (.lst (cutV (ivs ns) (some (i : Int)) (some ((i + l.length : Nat) : Int)))) g = some (.lst (ivs done)) := upd_old hgd np
          have hg3 : H3 g = some (.lst (ivs done)) := ap3 g _ hg1 gx hg
          have s3 : Same H H3 := fun b o e => by
            have e1 := s2 b o e
            refine ap3 b o (upd_old e1 np) ?_ ?_
            · intro q
              rw [q, nx] at e
              cases e
            · intro q
              rw [hfr b q] at e
              cases e
          have gA3 : g ∉ A3 := by
            intro q
            rcases gr3 g q with q | q
            · exact hg q
            · rw [hg1] at q
              cases q
          have rg : r ≠ g := by
            intro q
            rw [q, hg1] at nr
            cases nr
          -- given.append(len(answer))
          refine ⟨_, rfl, .inl ⟨rfl, _, SqL.of hg3⟩, _, rfl, r, _, rfl, .inl (SqL.of hr3), g, _, _, rfl, rfl, hg3, ?_, ?_⟩
          · rw [ivs_length]
            refine Nat.lt_of_le_of_lt (Nat.le_trans (Nat.le_add_right _ _) hsz) (by decide)
          -- given.extend(answer)
          refine ⟨_, rfl, .inl ⟨rfl, _, SqL.of upd_same⟩, _, rfl, g, r, _, _, rfl, rfl, upd_same, (by rw [upd_ne rg]; exact hr3), ?_, ?_⟩
          · rw [List.length_append, ivs_length, ivs_length]
            show done.length + 1 + _ ≤ sizeLine
            have : sizeLine = 16777216 := by decide
            have h2 : done.length + 13 * (cs2.length + 1) ≤ 13 * 14000 := hsz
            omega
          -- start = end
          refine ⟨_, rfl, cs2.length, Nat.lt_succ_self _, i + l.length, cs2, (stepS st cl).1, A3, done ++ ((stepS st cl).2.length : Int) :: (stepS st cl).2, some (.int ((i + l.length : Nat) : Int)), some (.ref r), rfl, ?_, ?_, gA3, ?_, ?_, hstep.1, ?_, by omega, fun c hc => hask' c (List.mem_cons_of_mem _ hc), ?_, ?_, rfl⟩
          · exact same_mut (same_mut s3 ngH) ngH
          · refine N.keep na3 fun b o hb e => ?_
            have bg : b ≠ g := by
              rintro rfl
              rcases hb with hb | hb
              · exact gx hb
              · exact gA3 hb
            rw [upd_ne bg, upd_ne bg]
            exact e
          · intro b hb
            rcases gr3 b hb with q | q
            · exact hfr b q
            · cases e : H b with
              | none => rfl
              | some o =>
                rw [upd_old (s2 b o e) np] at q
                cases q
          · rw [upd_same, ivs_append]
            show some (HO.lst ((ivs done ++ [_]) ++ _)) = some (HO.lst (ivs done ++ (_ :: _)))
            rw [List.append_assoc, ivs_length]
            rfl
          · rw [← List.drop_drop, hd, List.drop_left]
            exact F2
          · rw [← htold, List.append_assoc]
            rfl
          · have h2 : done.length + 13 * (cs2.length + 1) ≤ 13 * 14000 := hsz
            rw [List.length_append, List.length_cons]
            have := hstep.2
            omega
      · have c := of_decide_eq_false c
        have e : ns.drop i = [] := List.drop_eq_nil_of_le (by omega)
        rw [e] at fd
        have e2 := feed_nil fd
        subst e2
        refine ⟨_, rfl, k _ g ?_⟩
        rw [← htold, hgd]
        show _ = some (HO.lst (ivs (done ++ [])))
        rw [List.append_nil]
end
end Cw

namespace Cw
open PySem PySem.Spec PyProof.Rows L2
open Ql84 (Bits numberOf sum)
theorem rgc8 : ∀ n : Nat, n < 9 → RgC 19 ((19 + 8 * n : Nat) : Int) 8 n := by
  intro n h
  refine ⟨by decide, by decide, ?_, ?_⟩
  · have : ∀ n, n < 9 → Builtin.Range.small 19 ((19 + 8 * n : Nat) : Int) 8 = true := by decide
    exact this n h
  · have : ∀ n, n < 9 → Builtin.Range.rangeSize 19 ((19 + 8 * n : Nat) : Int) 8 = n := by decide
    exact this n h
/-- the bytes of the frame heard, the first n of them -/
def firstBytes (s : Bits) (n : Nat) : List Int := ((List.range n).map fun (i : Nat) => numberOf ((s.drop (19 + 8 * i)).take 8)).map fun (x : Nat) => (x : Int)
theorem firstBytes_succ (s : Bits) (n : Nat) : firstBytes s (n + 1) = firstBytes s n ++ [((numberOf ((s.drop (19 + 8 * n)).take 8) : Nat) : Int)] := by
  unfold firstBytes
  rw [List.range_succ, List.map_append, List.map_append]
  rfl
theorem firstBytes_length (s : Bits) (n : Nat) : (firstBytes s n).length = n := by
  unfold firstBytes
  rw [List.length_map, List.length_map, List.length_range]
theorem cont_is (s : Bits) : cont (Ql84.frameOf s) = ((numberOf ((s.drop 1).take 11) / 256 : Nat) : Int) :: ((numberOf ((s.drop 1).take 11) % 256 : Nat) : Int) :: ((told4 s : Nat) : Int) :: firstBytes s (told4 s) := by
  unfold cont Ql84.frameOf
  dsimp only
  rw [List.length_map, List.length_range]
  rfl
section
variable {P : Program} {w : World} {K : PySem.W.Frag} {mg : Str → Option Value} {base : Heap}
def spContents (C : Addr) : Sp := fun vs H Q _ => ∃ (x l : Addr) (m : HM), vs = [.ref x] ∧ HAt C H x l m ∧ m.seen.length = 34 + 8 * told4 m.seen ∧ told4 m.seen ≤ 8 ∧ ∀ H' p, Same H H' → H p = none → H' p = some (.lst (ivs (cont (Ql84.frameOf m.seen)))) → Q (.ref p) H'
theorem ok_contents (W : Env K mg) : FnOk P w K mg base CX0 4 W.f_contents W.fd_contents ["self"] (spContents W.HC) := by
  refine W.d_contents.F.ok sc_contents (fun vs H Q E h => ?_) (fun cdv A outer s H vs Q E hr h => ?_)
  · obtain ⟨_, _, _, rfl, _⟩ := h
    rfl
  · obtain ⟨x, l, m, rfl, ha, hlen, h8, k⟩ := h
    obtain ⟨dx, hx⟩ := ha.o
    have hl := ha.l
    refine ⟨_, (pss_cons (ps_set (i := 1) sc_contents.nd rfl (Or.inl rfl) (pe_call (ok_number_of W) (hr.mono (by decide)) rfl W.d_number_of.m W.d_number_of.F.kp W.d_number_of.b .nil pass0 (pa_cons (pe_slice sl_list (pe_fld (pv 0) rfl) (po_some pe_int) (po_some (pgI W.g_RANK_BITS))) pa_nil)))
      (pss_cons (ps_set (i := 2) sc_contents.nd rfl (Or.inl rfl) (pe_lst (pa_cons (pe_op op_shr (pv 1) (pgI W.g_BYTE_BITS)) (pa_cons (pe_op op_and (pv 1) pe_int) (pa_cons (pe_meth0 (pv 0) W.clH W.d_length.m (ok_length W) (hr.mono (by decide)) W.d_length.b .nil pass0) pa_nil)))))
      (pss_cons (ps_for PassesOwn.never rfl (pi_range3 rfl W.range (pa_cons (pgI W.g_HEAD_BITS) (pa_cons (pe_meth0 (pv 0) W.clH W.d_sum_at.m (ok_sum_at W) (hr.mono (by decide)) W.d_sum_at.b .nil pass0) (pa_cons (pgI W.g_BYTE_BITS) pa_nil)))) (pg_name (i := 3) sc_contents.nd rfl (Or.inl rfl)) (pss_one (ps_expr (pe_bm PySem.F.plainAttrs_list PySem.F.slot_list_append PySem.F.type_list_append mt_append (pv 2) (pa_cons (pe_call (ok_number_of W) (hr.mono (by decide)) rfl W.d_number_of.m W.d_number_of.F.kp W.d_number_of.b .nil pass0 (pa_cons (pe_slice sl_list (pe_fld (pv 0) rfl) (po_some (pv 3)) (po_some (pe_op op_add (pv 3) (pgI W.g_BYTE_BITS)))) pa_nil)) pa_nil)))))
      (pss_one (ps_ret (pv 2)))))), ?_⟩
    -- name
    refine ⟨_, rfl, x, W.HC, dx, _, _, rfl, hx, W.clH, W.n_bits, rfl, _, rfl, _, rfl, l, _, rfl, SqL.of hl, fun p1 np1 => ?_⟩
    refine ⟨p1, (m.seen.drop 1).take 11, rfl, SqL.of ?_, ?_, ?_⟩
    · rw [upd_same]
      exact congrArg (fun z => some (HO.lst z)) (cut_bvs (s := m.seen) (i := 1) (j := 12) (by decide) (by omega))
    · rw [List.length_take]
      omega
    have s1 := same_upd (o := .lst (cutV (bvs m.seen) (some 1) (some 12))) np1
    obtain ⟨nm, enm⟩ : ∃ nm, nm = numberOf ((m.seen.drop 1).take 11) := ⟨_, rfl⟩
    rw [← enm]
    -- row
    have ha1 := ha.same s1
    obtain ⟨dx1, hx1⟩ := ha1.o
    refine ⟨_, rfl, _, _, rfl, rfl, (by show (0 : Int) ≤ 8; decide), _, rfl, _, _, rfl, rfl, _, rfl, x, dx1, _, rfl, hx1, rfl, x, l, m, rfl, ha1, by omega, fun H2 s2 => ?_⟩
    refine ⟨(by show 3 ≤ sizeLine; decide), fun p np => ?_⟩
    have s02 := s1.trans s2
    have npH : H p = none := s02.free np
    have s03 : Same H (upd H2 p (.lst [.int ((nm : Int) / 2 ^ (8 : Int).toNat), .int (Builtin.bitAnd (nm : Int) 255), .int ((told4 m.seen : Nat) : Int)])) := s02.trans (same_upd np)
    have e0 : ([.int ((nm : Int) / 2 ^ (8 : Int).toNat), .int (Builtin.bitAnd (nm : Int) 255), .int ((told4 m.seen : Nat) : Int)] : List V) = ivs (((nm / 256 : Nat) : Int) :: ((nm % 256 : Nat) : Int) :: ((told4 m.seen : Nat) : Int) :: firstBytes m.seen 0) := by
      have e1 : (nm : Int) / 2 ^ (8 : Int).toNat = ((nm / 256 : Nat) : Int) := by
        show (nm : Int) / 256 = _
        omega
      have e2 : Builtin.bitAnd (nm : Int) 255 = ((nm % 256 : Nat) : Int) := by
        have q : (255 : Int) = 2 ^ 8 - 1 := by decide
        rw [q, Bits.bitAnd_mask 8 (Int.natCast_nonneg _)]
        show (nm : Int) % 256 = _
        omega
      rw [e1, e2]
      rfl
    have ha3 := ha.same s03
    obtain ⟨dx3, hx3⟩ := ha3.o
    refine ⟨_, rfl, x, dx3, _, rfl, hx3, rfl, x, l, m, rfl, ha3, by omega, fun H4 s4 => ?_⟩
    have s04 := s03.trans s4
    refine ⟨19, ((19 + 8 * told4 m.seen : Nat) : Int), 8, told4 m.seen, rfl, rgc8 _ (by omega), for_rangeC (lo := 19) (c := 8) (n := told4 m.seen) (fun i σ H' => ∃ v : Option V, σ = [some (.ref x), some (.int (nm : Int)), some (.ref p), v] ∧ Same H H' ∧ H' p = some (.lst (ivs (((nm / 256 : Nat) : Int) :: ((nm % 256 : Nat) : Int) :: ((told4 m.seen : Nat) : Int) :: firstBytes m.seen i)))) ⟨none, rfl, s04, ?_⟩ ?_ ?_⟩
    · refine s4 _ _ ?_
      rw [upd_same, e0]
    · rintro i σ H' hi ⟨v, rfl, s5, h5⟩
      have ha5 := ha.same s5
      obtain ⟨dx5, hx5⟩ := ha5.o
      refine ⟨_, rfl, .inl ⟨rfl, _, SqL.of h5⟩, _, rfl, x, W.HC, dx5, _, _, rfl, hx5, W.clH, W.n_bits, rfl, _, rfl, _, rfl, _, rfl, _, _, rfl, rfl, _, rfl, l, _, rfl, SqL.of ha5.l, fun q nq => ?_⟩
      refine ⟨q, (m.seen.drop (19 + 8 * i)).take 8, rfl, SqL.of ?_, ?_, ?_⟩
      · rw [upd_same]
        have e1 : (19 : Int) + (i : Int) * 8 = ((19 + 8 * i : Nat) : Int) := by omega
        have e2 : (19 : Int) + (i : Int) * 8 + 8 = ((19 + 8 * i + 8 : Nat) : Int) := by omega
        rw [e1] at e2 ⊢
        rw [e2, cut_bvs (by omega) (by omega)]
        have e3 : 19 + 8 * i + 8 - (19 + 8 * i) = 8 := by omega
        rw [e3]
      · rw [List.length_take]
        omega
      refine ⟨p, _, _, rfl, rfl, upd_old h5 nq, ?_, ?_⟩
      · rw [ivs_length, List.length_cons, List.length_cons, List.length_cons, firstBytes_length]
        have : sizeLine = 16777216 := by decide
        omega
      · refine ⟨_, rfl, same_mut (s5.trans (same_upd nq)) npH, ?_⟩
        rw [upd_same, firstBytes_succ]
        show some (HO.lst (ivs _ ++ [V.int _])) = _
        rw [← List.cons_append, ← List.cons_append, ← List.cons_append, ivs_append]
        rfl
    · rintro σ H' ⟨v, rfl, s5, h5⟩
      refine ⟨_, rfl, k H' p s5 npH ?_⟩
      rw [h5, cont_is, ← enm]
end
end Cw

namespace Cw
open PySem PySem.Spec PyProof.Rows L2
open Ql84 (Bits numberOf sum wire Frame)
/-! ### a node, as an object -/
structure NM where
  state : Nat
  ones : Nat
  wanted : V
  got : V
  se : Nat
  he : Nat
  isS : Bool
  heard : V
  fat : Nat
  tat : Nat
  told : Nat
def NM.fs (m : NM) : List (Str × V) := [("state", .int (m.state : Int)), ("ones", .int (m.ones : Int)), ("wanted", m.wanted), ("got", m.got), ("sender_errors", .int (m.se : Int)), ("hearer_errors", .int (m.he : Int)), ("is_sender", .bl m.isS), ("heard", m.heard), ("frame_at", .int (m.fat : Int)), ("tail_at", .int (m.tat : Int)), ("told", .int (m.told : Int))]
def NM.new : NM := ⟨4, 0, .non, .non, 0, 0, false, .non, 0, 0, 0⟩
/-- a field that may hold a list of the node's own -/
def LstR (H : Hp) (v : V) (A : List Addr) : Option (List V) → Prop
  | none => v = .non
  | some xs => ∃ a, v = .ref a ∧ a ∈ A ∧ H a = some (.lst xs)
theorem LstR.keep {H H' : Hp} {v : V} {A A' : List Addr} {o : Option (List V)} (h : LstR H v A o) (sub : ∀ b ∈ A, b ∈ A') (k : ∀ b u, b ∈ A → v = .ref b → H b = some u → H' b = some u) : LstR H' v A' o := by
  cases o with
  | none => exact h
  | some xs =>
    obtain ⟨a, e, ha, hH⟩ := h
    exact ⟨a, e, sub a ha, k a _ ha e hH⟩
theorem LstR.isN {H : Hp} {v : V} {A : List Addr} {o : Option (List V)} (h : LstR H v A o) : decide (v = .non) = o.isNone := by
  cases o with
  | none => exact decide_eq_true h
  | some xs =>
    obtain ⟨a, e, _⟩ := h
    subst e
    rfl
def wantL (s : Ql84.St) : Option (List V) := s.want.map fun f => bvs (wire f)
def gotL (s : Ql84.St) : Option (List V) := s.got.map fun f => ivs (cont f)
structure NB (H : Hp) (m : NM) (A : List Addr) (s : Ql84.St) : Prop where
  se : m.se = s.sent
  he : m.he = s.heard
  want : LstR H m.wanted A (wantL s)
  got : LstR H m.got A (gotL s)
/-- where the node is -/
def PhR (HC : Addr) (H : Hp) (m : NM) (A : List Addr) (s : Ql84.St) : Ql84.Phase → Prop
  | .idle => True
  | .body seen last run => ∃ hx l, m.heard = .ref hx ∧ hx ∈ A ∧ l ∈ A ∧ HAt HC H hx l ⟨seen, some last, run⟩ ∧ m.isS = s.sending.isSome ∧ (∀ todo, s.sending = some todo → ∃ f, s.want = some f ∧ todo = (wire f).drop m.fat) ∧ m.wanted ≠ .ref l ∧ m.got ≠ .ref l
  | .tail k seen => ∃ hx l lo run, m.heard = .ref hx ∧ hx ∈ A ∧ l ∈ A ∧ HAt HC H hx l ⟨seen, lo, run⟩ ∧ m.isS = s.sending.isSome ∧ m.tat = k
  | .flag k => m.told = k
  | .rest k => m.ones = k
  | .off => True
structure NX (C HC : Addr) (H : Hp) (x : Addr) (A : List Addr) (dx : Addr) (m : NM) (s : Ql84.St) : Prop where
  o : H x = some (.ins C dx m.fs)
  xA : x ∉ A
  alive : ∀ b ∈ A, ∃ u, H b = some u
  b : NB H m A s
  st : m.state = s.phase.number
  ph : PhR HC H m A s s.phase
def NA (C HC : Addr) (H : Hp) (x : Addr) (A : List Addr) (s : Ql84.St) : Prop := ∃ dx m, NX C HC H x A dx m s
theorem NB.keep {H H' : Hp} {m : NM} {A A' : List Addr} {s : Ql84.St} (h : NB H m A s) (sub : ∀ b ∈ A, b ∈ A') (k : ∀ b u, b ∈ A → (m.wanted = .ref b ∨ m.got = .ref b) → H b = some u → H' b = some u) : NB H' m A' s :=
  ⟨h.se, h.he, h.want.keep sub fun b u hb e => k b u hb (.inl e), h.got.keep sub fun b u hb e => k b u hb (.inr e)⟩
theorem PhR.keep {HC : Addr} {H H' : Hp} {m : NM} {A A' : List Addr} {s : Ql84.St} {p : Ql84.Phase} (h : PhR HC H m A s p) (sub : ∀ b ∈ A, b ∈ A') (k : ∀ b u, b ∈ A → H b = some u → H' b = some u) : PhR HC H' m A' s p := by
  cases p with
  | idle => exact h
  | off => exact h
  | flag => exact h
  | rest => exact h
  | body seen last run =>
    obtain ⟨hx, l, h1, h2, h3, h4, h5⟩ := h
    exact ⟨hx, l, h1, sub _ h2, sub _ h3, h4.keep (fun b o q e => k b o (by rcases q with q | q <;> subst q <;> assumption) e), h5⟩
  | tail n seen =>
    obtain ⟨hx, l, lo, run, h1, h2, h3, h4, h5⟩ := h
    exact ⟨hx, l, lo, run, h1, sub _ h2, sub _ h3, h4.keep (fun b o q e => k b o (by rcases q with q | q <;> subst q <;> assumption) e), h5⟩
theorem nodes (C HC : Addr) : Nodes (NA C HC) where
  keep := by
    rintro H H' x A s ⟨dx, m, h⟩ k
    refine ⟨dx, m, k _ _ (.inl rfl) h.o, h.xA, fun b hb => ?_, h.b.keep (fun _ q => q) fun b u hb _ e => k b u (.inr hb) e, h.st, h.ph.keep (fun _ q => q) fun b u hb e => k b u (.inr hb) e⟩
    obtain ⟨u, e⟩ := h.alive b hb
    exact ⟨u, k b u (.inr hb) e⟩
  self := fun ⟨_, _, h⟩ => ⟨_, h.o⟩
  all := fun ⟨_, _, h⟩ => h.alive
/-- what a call does besides -/
structure Stepd (H H' : Hp) (x : Addr) (A A' : List Addr) : Prop where
  sub : ∀ b ∈ A, b ∈ A'
  grown : Grown H A A'
  apart : Apart H H' x A
theorem Stepd.refl (H : Hp) (x : Addr) (A : List Addr) : Stepd H H x A A := ⟨fun _ h => h, fun _ h => .inl h, fun _ _ e _ _ => e⟩
theorem Stepd.upd {H : Hp} {x : Addr} {A : List Addr} {o : HO} : Stepd H (L2.upd H x o) x A A := ⟨fun _ h => h, fun _ h => .inl h, fun _ _ e n _ => by rw [upd_ne n]; exact e⟩
theorem Stepd.free {C HC : Addr} {H H' : Hp} {x : Addr} {A A' : List Addr} {s s' : Ql84.St} (h : Stepd H H' x A A') (n0 : NA C HC H x A s) (n : NA C HC H' x A' s') {p : Addr} (e : H' p = none) : H p = none := by
  cases q : H p with
  | none => rfl
  | some o =>
    exfalso
    by_cases c : p = x
    · obtain ⟨u, hu⟩ := (nodes C HC).self n
      rw [c, hu] at e
      cases e
    · by_cases d : p ∈ A
      · obtain ⟨u, hu⟩ := (nodes C HC).all n p (h.sub p d)
        rw [hu] at e
        cases e
      · rw [h.apart p o q c d] at e
        cases e
/-- the node's own fields change, nothing else -/
theorem NX.own {C HC : Addr} {H : Hp} {x : Addr} {A : List Addr} {dx : Addr} {m m' : NM} {s s' : Ql84.St} (h : NX C HC H x A dx m s) (hb : NB H m' A s') (st : m'.state = s'.phase.number) (ph : PhR HC H m' A s' s'.phase) : NX C HC (upd H x (.ins C dx m'.fs)) x A dx m' s' := by
  have ne : ∀ b, b ∈ A → b ≠ x := fun b hb e => h.xA (e ▸ hb)
  refine ⟨upd_same, h.xA, fun b q => ?_, hb.keep (fun _ q => q) fun b u q _ e => by rw [upd_ne (ne b q)]; exact e, st, ph.keep (fun _ q => q) fun b u q e => by rw [upd_ne (ne b q)]; exact e⟩
  obtain ⟨u, e⟩ := h.alive b q
  exact ⟨u, by rw [upd_ne (ne b q)]; exact e⟩
theorem dst {a n c : Nat} {b : Bool} (h : a = n) (e : decide (n = c) = b) : decide (V.int (a : Int) = V.int ((c : Nat) : Int)) = b := by
  rw [dec_int, ← e, h, Bool.eq_iff_iff, beq_iff_eq, decide_eq_true_iff]
  omega
section
variable {P : Program} {w : World} {K : PySem.W.Frag} {mg : Str → Option Value} {base : Heap}
/-! ### begin, __init__ -/
def spBegin (C : Addr) : Sp := fun vs H Q _ => ∃ (x dx : Addr) (fs : List (Str × V)), vs = [.ref x] ∧ H x = some (.ins C dx fs) ∧ (fs = [] ∨ ∃ m : NM, fs = m.fs) ∧ Q (.int 0) (upd H x (.ins C dx NM.new.fs))
theorem begin_put (fs : List (Str × V)) (h : fs = [] ∨ ∃ m : NM, fs = m.fs) : putF "told" (.int 0) (putF "tail_at" (.int 0) (putF "frame_at" (.int 0) (putF "heard" .non (putF "is_sender" (.bl false) (putF "hearer_errors" (.int 0) (putF "sender_errors" (.int 0) (putF "got" .non (putF "wanted" .non (putF "ones" (.int 0) (putF "state" (.int 4) fs)))))))))) = NM.new.fs := by
  rcases h with h | ⟨m, h⟩
  · subst h
    rfl
  · subst h
    rfl
theorem putF_length (f : Str) (v : V) : ∀ fs : List (Str × V), (putF f v fs).length ≤ fs.length + 1
  | [] => Nat.le_refl _
  | (g, y) :: r => by
    show (if g = f then (g, v) :: r else (g, y) :: putF f v r).length ≤ _
    split
    · simp
    · simp
      exact putF_length f v r
theorem ok_begin (W : Env K mg) : FnOk P w K mg base CX0 1 W.f_begin W.fd_begin ["self"] (spBegin W.C) := by
  refine W.d_begin.F.ok sc_begin (fun vs H Q E h => ?_) (fun cdv A outer s H vs Q E hr h => ?_)
  · obtain ⟨_, _, _, rfl, _⟩ := h
    rfl
  · obtain ⟨x, dx, fs, rfl, hx, hf, k⟩ := h
    refine ⟨_, (pss_cons (ps_fld (pv 0) (pgI W.g_WAITING) rfl)
      (pss_cons (ps_fld (pv 0) pe_int rfl)
      (pss_cons (ps_fld (pv 0) pe_non rfl)
      (pss_cons (ps_fld (pv 0) pe_non rfl)
      (pss_cons (ps_fld (pv 0) pe_int rfl)
      (pss_cons (ps_fld (pv 0) pe_int rfl)
      (pss_cons (ps_fld (pv 0) pe_bl rfl)
      (pss_cons (ps_fld (pv 0) pe_non rfl)
      (pss_cons (ps_fld (pv 0) pe_int rfl)
      (pss_cons (ps_fld (pv 0) pe_int rfl)
      (pss_cons (ps_fld (pv 0) pe_int rfl)
      (pss_one (ps_ret (pgI W.g_DONE)))))))))))))), ?_⟩
    have h0 : fs.length < 12 := by
      rcases hf with h | ⟨m, h⟩
      · subst h
        decide
      · subst h
        show 11 < 12
        decide
    have up : ∀ {n : Nat} {f : Str} {v : V} {l : List (Str × V)}, l.length < n → (putF f v l).length < n + 1 := fun {n f v l} q => by
      have := putF_length f v l
      omega
    have l1 := up (f := "state") (v := V.int 4) h0
    have l2 := up (f := "ones") (v := V.int 0) l1
    have l3 := up (f := "wanted") (v := V.non) l2
    have l4 := up (f := "got") (v := V.non) l3
    have l5 := up (f := "sender_errors") (v := V.int 0) l4
    have l6 := up (f := "hearer_errors") (v := V.int 0) l5
    have l7 := up (f := "is_sender") (v := V.bl false) l6
    have l8 := up (f := "heard") (v := V.non) l7
    have l9 := up (f := "frame_at") (v := V.int 0) l8
    have l10 := up (f := "tail_at") (v := V.int 0) l9
    refine ⟨_, rfl, x, W.C, dx, _, rfl, hx, W.cl, W.n_state, Nat.lt_of_lt_of_le h0 (by decide), ?_⟩
    refine ⟨_, rfl, x, W.C, dx, _, rfl, upd_same, W.cl, W.n_ones, Nat.lt_of_lt_of_le l1 (by decide), ?_⟩
    refine ⟨_, rfl, x, W.C, dx, _, rfl, upd_same, W.cl, W.n_wanted, Nat.lt_of_lt_of_le l2 (by decide), ?_⟩
    refine ⟨_, rfl, x, W.C, dx, _, rfl, upd_same, W.cl, W.n_got, Nat.lt_of_lt_of_le l3 (by decide), ?_⟩
    refine ⟨_, rfl, x, W.C, dx, _, rfl, upd_same, W.cl, W.n_sender_errors, Nat.lt_of_lt_of_le l4 (by decide), ?_⟩
    refine ⟨_, rfl, x, W.C, dx, _, rfl, upd_same, W.cl, W.n_hearer_errors, Nat.lt_of_lt_of_le l5 (by decide), ?_⟩
    refine ⟨_, rfl, x, W.C, dx, _, rfl, upd_same, W.cl, W.n_is_sender, Nat.lt_of_lt_of_le l6 (by decide), ?_⟩
    refine ⟨_, rfl, x, W.C, dx, _, rfl, upd_same, W.cl, W.n_heard, Nat.lt_of_lt_of_le l7 (by decide), ?_⟩
    refine ⟨_, rfl, x, W.C, dx, _, rfl, upd_same, W.cl, W.n_frame_at, Nat.lt_of_lt_of_le l8 (by decide), ?_⟩
    refine ⟨_, rfl, x, W.C, dx, _, rfl, upd_same, W.cl, W.n_tail_at, Nat.lt_of_lt_of_le l9 (by decide), ?_⟩
    refine ⟨_, rfl, x, W.C, dx, _, rfl, upd_same, W.cl, W.n_told, Nat.lt_of_lt_of_le l10 (by decide), ?_⟩
    rw [← begin_put fs hf] at k
    show Q (V.int 0) _
    simp only [upd_upd]
    exact k
theorem new_nb (H : Hp) (A : List Addr) : NB H NM.new A Ql84.begun := ⟨rfl, rfl, rfl, rfl⟩
theorem ok_init (W : Env K mg) : FnOk P w K mg base CX0 2 W.f_init W.fd_init ["self"] (spInit W.C (NA W.C W.HC)) := by
  refine W.d_init.F.ok sc_init (fun vs H Q E h => ?_) (fun cdv A outer s H vs Q E hr h => ?_)
  · obtain ⟨_, _, rfl, _⟩ := h
    rfl
  · obtain ⟨x, dx, rfl, hx, k⟩ := h
    refine ⟨_, (pss_one (ps_expr (pe_meth0 (pv 0) W.cl W.d_begin.m (ok_begin W) (hr.mono (by decide)) W.d_begin.b .nil pass0))), ?_⟩
    refine ⟨_, rfl, x, dx, _, rfl, hx, rfl, x, dx, [], rfl, hx, .inl rfl, ?_⟩
    refine k _ ⟨dx, NM.new, upd_same, by simp, by simp, new_nb _ _, rfl, rfl⟩ (fun b o e n => ?_)
    rw [upd_ne n]
    exact e
/-! ### fail -/
def NM.failed (m : NM) : NM := if m.isS = true then (if 256 ≤ m.se + 8 then { m with se := 256, isS := false, state := 5 } else { m with se := m.se + 8, isS := false, state := 3, told := 0 }) else { m with he := min 127 (m.he + 1), isS := false, state := 3, told := 0 }
def NM.failCode (m : NM) : Nat := if m.isS = true then (if 256 ≤ m.se + 8 then 5 else 3) else 3
def spFail (C : Addr) : Sp := fun vs H Q _ => ∃ (x dx : Addr) (m : NM), vs = [.ref x] ∧ H x = some (.ins C dx m.fs) ∧ m.se ≤ 255 ∧ Q (.int (m.failCode : Int)) (upd H x (.ins C dx m.failed.fs))
theorem ok_fail (W : Env K mg) : FnOk P w K mg base CX0 1 W.f_fail W.fd_fail ["self"] (spFail W.C) := by
  refine W.d_fail.F.ok sc_fail (fun vs H Q E h => ?_) (fun cdv A outer s H vs Q E hr h => ?_)
  · obtain ⟨_, _, _, rfl, _⟩ := h
    rfl
  · obtain ⟨x, dx, m, rfl, hx, hse, k⟩ := h
    refine ⟨_, (pss_cons (ps_if (pt_val (pe_fld (pv 0) rfl)) (pss_one (ps_fld (pv 0) (pe_callB (call_min2 rfl) (by rfl) W.min (by decide +kernel) (pa_cons (pe_op op_add (pe_fld (pv 0) rfl) (pgI W.g_SENDER_ERROR)) (pa_cons (pgI W.g_SENDER_IS_OFF) pa_nil))) rfl)) (pss_one (ps_fld (pv 0) (pe_callB (call_min2 rfl) (by rfl) W.min (by decide +kernel) (pa_cons (pe_op op_add (pe_fld (pv 0) rfl) (pgI W.g_HEARER_ERROR)) (pa_cons (pgI W.g_MOST_HEARER_ERRORS) pa_nil))) rfl)))
      (pss_cons (ps_fld (pv 0) pe_bl rfl)
      (pss_cons (ps_if (pt_cmpR op_eq (pe_fld (pv 0) rfl) (pgI W.g_SENDER_IS_OFF) (nomark _)) (pss_cons (ps_fld (pv 0) (pgI W.g_OFF) rfl)
      (pss_one (ps_ret (pgI W.g_NOW_OFF)))) pss_nil)
      (pss_cons (ps_fld (pv 0) (pgI W.g_TELLING) rfl)
      (pss_cons (ps_fld (pv 0) pe_int rfl)
      (pss_one (ps_ret (pgI W.g_ERROR)))))))), ?_⟩
    refine st_cut (fun σ' H' => ∃ m1 : NM, σ' = [some (.ref x)] ∧ H' = upd H x (.ins W.C dx m1.fs) ∧ m1 = if m.isS = true then { m with se := min 256 (m.se + 8) } else { m with he := min 127 (m.he + 1) }) ?_ ?_
    · intro N hN
      by_cases c : m.isS = true
      · refine st_yes (ans_val (val_fld (val_var rfl) hx W.cl W.n_is_sender (by rw [← c]; rfl))) ?_
        refine st_fld (K := K) (a := x) (C := W.C) (dx := dx) (fs := m.fs) (y := .int ((min 256 (m.se + 8) : Nat) : Int)) ?_ (val_var rfl) hx W.cl W.n_sender_errors (by show 11 < 1000; decide) ?_
        · intro R r
          refine ⟨_, rfl, x, W.C, dx, _, _, rfl, hx, W.cl, W.n_sender_errors, rfl, _, _, rfl, rfl, _, _, rfl, ?_⟩
          have e : (if (256 : Int) < ((m.se : Int) + 8) then (256 : Int) else (m.se : Int) + 8) = ((min 256 (m.se + 8) : Nat) : Int) := by
            split <;> omega
          show R (.int (if (256 : Int) < ((m.se : Int) + 8) then (256 : Int) else (m.se : Int) + 8)) H
          rw [e]
          exact r
        · refine hN _ _ ⟨{ m with se := min 256 (m.se + 8) }, rfl, rfl, ?_⟩
          rw [if_pos c]
      · have c' : m.isS = false := by simpa using c
        refine st_no (ans_val (val_fld (val_var rfl) hx W.cl W.n_is_sender (by rw [← c']; rfl))) ?_
        refine st_fld (K := K) (a := x) (C := W.C) (dx := dx) (fs := m.fs) (y := .int ((min 127 (m.he + 1) : Nat) : Int)) ?_ (val_var rfl) hx W.cl W.n_hearer_errors (by show 11 < 1000; decide) ?_
        · intro R r
          refine ⟨_, rfl, x, W.C, dx, _, _, rfl, hx, W.cl, W.n_hearer_errors, rfl, _, _, rfl, rfl, _, _, rfl, ?_⟩
          have e : (if (127 : Int) < ((m.he : Int) + 1) then (127 : Int) else (m.he : Int) + 1) = ((min 127 (m.he + 1) : Nat) : Int) := by
            split <;> omega
          show R (.int (if (127 : Int) < ((m.he : Int) + 1) then (127 : Int) else (m.he : Int) + 1)) H
          rw [e]
          exact r
        · refine hN _ _ ⟨{ m with he := min 127 (m.he + 1) }, rfl, rfl, ?_⟩
          rw [if_neg c]
    · rintro σ' H' ⟨m1, rfl, rfl, hm1⟩
      refine st_seq (st_fld (K := K) (a := x) (C := W.C) (dx := dx) (fs := m1.fs) (y := .bl false) val_c (val_var rfl) upd_same W.cl W.n_is_sender (by show 11 < 1000; decide) ?_)
      rw [upd_upd]
      have hx2 : upd H x (.ins W.C dx ({ m1 with isS := false } : NM).fs) x = some (.ins W.C dx ({ m1 with isS := false } : NM).fs) := upd_same
      by_cases c : m1.se = 256
      · refine st_seq (st_yes (ans_eq (val_fld (val_var rfl) hx2 W.cl W.n_sender_errors rfl) val_c rfl (dst (c := 256) c rfl)) ?_)
        refine ⟨_, rfl, x, W.C, dx, _, rfl, hx2, W.cl, W.n_state, (by show 11 < 1000; decide), ?_⟩
        show Q (.int 5) (upd (upd H x _) x (.ins W.C dx ({ m1 with isS := false, state := 5 } : NM).fs))
        rw [upd_upd]
        unfold NM.failed NM.failCode at k
        by_cases d : m.isS = true
        · rw [if_pos d] at hm1 k
          rw [if_pos d] at k
          subst hm1
          have c : min 256 (m.se + 8) = 256 := c
          have q : 256 ≤ m.se + 8 := by omega
          rw [if_pos q, if_pos q] at k
          rw [show (256 : Nat) = min 256 (m.se + 8) from c.symm] at k
          exact k
        · rw [if_neg d] at hm1
          subst hm1
          have c : m.se = 256 := c
          omega
      · have hd : decide (m1.se = 256) = false := decide_eq_false c
        refine st_seq (st_no (ans_eq (val_fld (val_var rfl) hx2 W.cl W.n_sender_errors rfl) val_c rfl (dst (c := 256) rfl hd)) ?_)
        refine ⟨_, rfl, x, W.C, dx, _, rfl, hx2, W.cl, W.n_state, (by show 11 < 1000; decide), ?_⟩
        refine ⟨_, rfl, x, W.C, dx, _, rfl, upd_same, W.cl, W.n_told, (by show 11 < 1000; decide), ?_⟩
        show Q (.int 3) (upd (upd (upd H x _) x _) x (.ins W.C dx ({ m1 with isS := false, state := 3, told := 0 } : NM).fs))
        rw [upd_upd, upd_upd]
        unfold NM.failed NM.failCode at k
        by_cases d : m.isS = true
        · rw [if_pos d] at hm1 k
          rw [if_pos d] at k
          subst hm1
          have c : ¬ min 256 (m.se + 8) = 256 := c
          have q : ¬ 256 ≤ m.se + 8 := by omega
          rw [if_neg q, if_neg q] at k
          rw [show m.se + 8 = min 256 (m.se + 8) by omega] at k
          exact k
        · rw [if_neg d] at hm1 k
          rw [if_neg d] at k
          subst hm1
          exact k
/-- an error of the document is one of the program -/
theorem fail_is {H : Hp} {m : NM} {A : List Addr} {s : Ql84.St} (HC : Addr) (hb : NB H m A s) (hS : m.isS = s.sending.isSome) : NB H m.failed A s.error.1 ∧ m.failed.state = s.error.1.phase.number ∧ PhR HC H m.failed A s.error.1 s.error.1.phase ∧ m.failCode = s.error.2 := by
  unfold NM.failed NM.failCode Ql84.St.error
  rw [← hS]
  by_cases c : m.isS = true
  · rw [if_pos c, if_pos c, if_pos c, ← hb.se]
    by_cases d : 256 ≤ m.se + 8
    · rw [if_pos d, if_pos d, if_pos d]
      exact ⟨⟨rfl, hb.he, hb.want, hb.got⟩, rfl, trivial, rfl⟩
    · rw [if_neg d, if_neg d, if_neg d]
      exact ⟨⟨rfl, hb.he, hb.want, hb.got⟩, rfl, rfl, rfl⟩
  · rw [if_neg c, if_neg c, if_neg c]
    exact ⟨⟨hb.se, by rw [hb.he], hb.want, hb.got⟩, rfl, rfl, rfl⟩
end
end Cw

namespace Cw
open PySem PySem.Spec PyProof.Rows L2
open Ql84 (Bits numberOf sum wire Frame)
section
variable {P : Program} {w : World} {K : PySem.W.Frag} {mg : Str → Option Value} {base : Heap}
/-! ### confirms, out -/
def spConfirms (C HC : Addr) : Sp := fun vs H Q _ => ∃ (x : Addr) (A : List Addr) (s : Ql84.St) (k : Nat) (seen : Bits), vs = [.ref x] ∧ NA C HC H x A s ∧ s.phase = .tail k seen ∧ 15 ≤ seen.length ∧ Q (.bl (k == 1 && (s.sending.isNone && Ql84.good seen))) H
theorem not_some {α : Type} (o : Option α) : (!o.isSome) = o.isNone := by cases o <;> rfl
theorem ok_confirms (W : Env K mg) : FnOk P w K mg base CX0 2 W.f_confirms W.fd_confirms ["self"] (spConfirms W.C W.HC) := by
  refine W.d_confirms.F.ok sc_confirms (fun vs H Q E h => ?_) (fun cdv A outer s H vs Q E hr h => ?_)
  · obtain ⟨_, _, _, _, _, rfl, _⟩ := h
    rfl
  · obtain ⟨x, A, s, n, seen, rfl, ⟨dx, m, X⟩, hp, h15, k⟩ := h
    refine ⟨_, (pss_one (ps_ret (pe_and (pe_cmpR op_eq (pe_fld (pv 0) rfl) (pgI W.g_CONFIRMING) (nomark _)) (pe_and (pe_not (pe_fld (pv 0) rfl)) (pe_one (pe_meth0 (pe_fld (pv 0) rfl) W.clH W.d_sum_is_right.m (ok_sum_is_right W) (hr.mono (by decide)) W.d_sum_is_right.b .nil pass0)))))), ?_⟩
    have ph := X.ph
    rw [hp] at ph
    obtain ⟨hx, l, lo, run, e1, _, _, ha, eS, et⟩ := ph
    refine ⟨_, rfl, x, W.C, dx, _, _, rfl, X.o, W.cl, W.n_tail_at, rfl, rfl, _, rfl, ?_⟩
    refine ifB (decide (n = 1)) (dst (c := 1) et rfl) (fun c => ?_) (fun c => ?_)
    · have c := of_decide_eq_true c
      subst c
      rw [show ((1 : Nat) == 1) = true from rfl, Bool.true_and, ← not_some, ← eS] at k
      refine ⟨_, rfl, x, W.C, dx, _, _, rfl, X.o, W.cl, W.n_is_sender, rfl, _, rfl, _, rfl, ?_⟩
      refine ifB (!m.isS) rfl (fun d => ?_) (fun d => ?_)
      · rw [d, Bool.true_and, good_is h15] at k
        obtain ⟨dh, hh⟩ := ha.o
        refine ⟨_, rfl, x, W.C, dx, _, _, rfl, X.o, W.cl, W.n_heard, rfl, hx, dh, _, e1, hh, rfl, hx, l, _, ?_, ha, k⟩
        rw [e1]
        rfl
      · rw [d, Bool.false_and] at k
        exact k
    · have c := of_decide_eq_false c
      rw [show (n == 1) = false from beq_false_of_ne c, Bool.false_and] at k
      exact k
def spOut (C HC : Addr) : Sp := fun vs H Q _ => ∃ (x : Addr) (A : List Addr) (s : Ql84.St), vs = [.ref x] ∧ NA C HC H x A s ∧ Wf s ∧ Q (bv s.out) H
theorem ok_out (W : Env K mg) : FnOk P w K mg base CX0 3 W.f_out W.fd_out ["self"] (spOut W.C W.HC) := by
  refine W.d_out.F.ok sc_out (fun vs H Q E h => ?_) (fun cdv A outer s H vs Q E hr h => ?_)
  · obtain ⟨_, _, _, rfl, _⟩ := h
    rfl
  · obtain ⟨x, A, s, rfl, na, wf, k⟩ := h
    obtain ⟨dx, m, X⟩ := na
    refine ⟨_, (pss_cons (ps_if (pt_cmpR op_eq (pe_fld (pv 0) rfl) (pgI W.g_IDLE) (nomark _)) (pss_one (ps_ret (pe_ifExp (pt_cmpR op_isN (pe_fld (pv 0) rfl) pe_non (nomark _)) pe_int pe_int))) pss_nil)
      (pss_cons (ps_if (pt_cmpR op_eq (pe_fld (pv 0) rfl) (pgI W.g_IN_FRAME) (nomark _)) (pss_one (ps_ret (pe_ifExp (pt_val (pe_fld (pv 0) rfl)) (pe_ix ix_list (pe_fld (pv 0) rfl) (pe_fld (pv 0) rfl) (fun _ _ => rfl)) pe_int))) pss_nil)
      (pss_cons (ps_if (pt_cmpR op_eq (pe_fld (pv 0) rfl) (pgI W.g_IN_TAIL) (nomark _)) (pss_one (ps_ret (pe_ifExp (pt_val (pe_meth0 (pv 0) W.cl W.d_confirms.m (ok_confirms W) (hr.mono (by decide)) W.d_confirms.b .nil pass0)) pe_int pe_int))) pss_nil)
      (pss_cons (ps_if (pt_cmpR op_eq (pe_fld (pv 0) rfl) (pgI W.g_TELLING) (nomark _)) (pss_one (ps_ret pe_int)) pss_nil)
      (pss_one (ps_ret pe_int)))))), ?_⟩
    have hst := X.st
    have ph := X.ph
    unfold Ql84.St.out at k
    cases hp : s.phase with
    | idle =>
      rw [hp] at k hst
      dsimp only at k
      refine st_seq (st_yes (ans_eq (val_fld (val_var rfl) X.o W.cl W.n_state rfl) val_c rfl (dst (c := 0) hst rfl)) ?_)
      refine st_ret (v := bv s.want.isNone) ?_ k
      have hw := X.b.want.isN
      have e : (wantL s).isNone = s.want.isNone := by
        unfold wantL
        cases s.want <;> rfl
      rw [e] at hw
      intro R r
      refine ⟨_, rfl, x, W.C, dx, _, _, rfl, X.o, W.cl, W.n_wanted, rfl, rfl, _, rfl, ?_⟩
      refine ifB s.want.isNone hw (fun c => ?_) (fun c => ?_)
      · rw [c] at r
        exact r
      · rw [c] at r
        exact r
    | body seen last run =>
      rw [hp] at k hst ph
      dsimp only at k
      obtain ⟨hx, l, e1, _, _, ha, eS, etodo, _, _⟩ := ph
      refine st_seq (st_no (ans_eq (val_fld (val_var rfl) X.o W.cl W.n_state rfl) val_c rfl (dst (c := 0) hst rfl)) ?_)
      refine st_seq (st_yes (ans_eq (val_fld (val_var rfl) X.o W.cl W.n_state rfl) val_c rfl (dst (c := 1) hst rfl)) ?_)
      refine ⟨_, rfl, x, W.C, dx, _, _, rfl, X.o, W.cl, W.n_is_sender, rfl, _, rfl, ?_⟩
      cases es : s.sending with
      | none =>
        rw [es] at k eS
        refine ifB false eS (fun z => nomatch z) (fun _ => k)
      | some todo =>
        rw [es] at k eS
        refine ifB true eS (fun _ => ?_) (fun z => nomatch z)
        obtain ⟨f, ef, et⟩ := etodo todo es
        obtain ⟨g, eg, okg, ho⟩ := wf.send todo es
        have ho : Ql84.Phase.body seen last run = s.phase → ∃ t r, todo = t :: r := by
          intro q
          rcases ho with ho | ⟨n, hn, _⟩
          · exact own_body ho q.symm
          · rw [← q] at hn
            cases hn
        obtain ⟨t, r, etr⟩ := ho hp.symm
        subst etr
        dsimp only at k
        have hw := X.b.want
        unfold wantL at hw
        rw [ef] at hw
        obtain ⟨a, ea, _, hHa⟩ := hw
        refine ⟨_, rfl, x, W.C, dx, _, _, rfl, X.o, W.cl, W.n_wanted, rfl, _, rfl, x, W.C, dx, _, _, rfl, X.o, W.cl, W.n_frame_at, rfl, a, _, _, bv t, ea, rfl, SqL.of hHa, ?_, k⟩
        refine atI_nat ?_
        unfold bvs
        have : (wire f)[m.fat]? = some t := by
          have h2 : ((wire f).drop m.fat)[0]? = some t := by rw [← et]; rfl
          rw [List.getElem?_drop] at h2
          exact h2
        rw [List.getElem?_map, this]
        rfl
    | tail n seen =>
      rw [hp] at k hst
      dsimp only at k
      refine st_seq (st_no (ans_eq (val_fld (val_var rfl) X.o W.cl W.n_state rfl) val_c rfl (dst (c := 0) hst rfl)) ?_)
      refine st_seq (st_no (ans_eq (val_fld (val_var rfl) X.o W.cl W.n_state rfl) val_c rfl (dst (c := 1) hst rfl)) ?_)
      refine st_seq (st_yes (ans_eq (val_fld (val_var rfl) X.o W.cl W.n_state rfl) val_c rfl (dst (c := 2) hst rfl)) ?_)
      have hT := wf.ph
      rw [hp] at hT
      have hT : TailOk n seen := hT
      have h15 : 15 ≤ seen.length := by
        have := hT.len
        omega
      refine ⟨_, rfl, x, dx, _, rfl, X.o, rfl, x, A, s, n, seen, rfl, ⟨dx, m, X⟩, hp, h15, _, rfl, ?_⟩
      refine ifB (n == 1 && (s.sending.isNone && Ql84.good seen)) rfl (fun c => ?_) (fun c => ?_)
      · rw [c] at k
        exact k
      · rw [c] at k
        exact k
    | flag n =>
      rw [hp] at k hst
      dsimp only at k
      refine st_seq (st_no (ans_eq (val_fld (val_var rfl) X.o W.cl W.n_state rfl) val_c rfl (dst (c := 0) hst rfl)) ?_)
      refine st_seq (st_no (ans_eq (val_fld (val_var rfl) X.o W.cl W.n_state rfl) val_c rfl (dst (c := 1) hst rfl)) ?_)
      refine st_seq (st_no (ans_eq (val_fld (val_var rfl) X.o W.cl W.n_state rfl) val_c rfl (dst (c := 2) hst rfl)) ?_)
      exact st_seq (st_yes (ans_eq (val_fld (val_var rfl) X.o W.cl W.n_state rfl) val_c rfl (dst (c := 3) hst rfl)) k)
    | rest n =>
      rw [hp] at k hst
      dsimp only at k
      refine st_seq (st_no (ans_eq (val_fld (val_var rfl) X.o W.cl W.n_state rfl) val_c rfl (dst (c := 0) hst rfl)) ?_)
      refine st_seq (st_no (ans_eq (val_fld (val_var rfl) X.o W.cl W.n_state rfl) val_c rfl (dst (c := 1) hst rfl)) ?_)
      refine st_seq (st_no (ans_eq (val_fld (val_var rfl) X.o W.cl W.n_state rfl) val_c rfl (dst (c := 2) hst rfl)) ?_)
      exact st_seq (st_no (ans_eq (val_fld (val_var rfl) X.o W.cl W.n_state rfl) val_c rfl (dst (c := 3) hst rfl)) k)
    | off =>
      rw [hp] at k hst
      dsimp only at k
      refine st_seq (st_no (ans_eq (val_fld (val_var rfl) X.o W.cl W.n_state rfl) val_c rfl (dst (c := 0) hst rfl)) ?_)
      refine st_seq (st_no (ans_eq (val_fld (val_var rfl) X.o W.cl W.n_state rfl) val_c rfl (dst (c := 1) hst rfl)) ?_)
      refine st_seq (st_no (ans_eq (val_fld (val_var rfl) X.o W.cl W.n_state rfl) val_c rfl (dst (c := 2) hst rfl)) ?_)
      exact st_seq (st_no (ans_eq (val_fld (val_var rfl) X.o W.cl W.n_state rfl) val_c rfl (dst (c := 3) hst rfl)) k)
/-! ### fits_tail -/
def fits (n : Nat) (isS good b : Bool) : Bool := if n = 1 then (!b || !isS) else if b = false then false else (!decide (n = 2) || (isS || good))
def spFitsTail (C HC : Addr) : Sp := fun vs H Q _ => ∃ (x : Addr) (A : List Addr) (s : Ql84.St) (n : Nat) (seen : Bits) (b : Bool), vs = [.ref x, bv b] ∧ NA C HC H x A s ∧ s.phase = .tail n seen ∧ 15 ≤ seen.length ∧ Q (.bl (fits n s.sending.isSome (Ql84.good seen) b)) H
theorem bv_zero (b : Bool) : decide (bv b = V.int 0) = !b := by cases b <;> decide
theorem bv_one (b : Bool) : decide (bv b = V.int 1) = b := by cases b <;> decide
theorem bv_scal (b : Bool) (i : Int) : scal (bv b) (V.int i) = true := rfl
theorem ok_fits_tail (W : Env K mg) : FnOk P w K mg base CX0 2 W.f_fits_tail W.fd_fits_tail ["self", "bit"] (spFitsTail W.C W.HC) := by
  refine W.d_fits_tail.F.ok sc_fits_tail (fun vs H Q E h => ?_) (fun cdv A outer s H vs Q E hr h => ?_)
  · obtain ⟨_, _, _, _, _, _, rfl, _⟩ := h
    rfl
  · obtain ⟨x, A, s, n, seen, b, rfl, ⟨dx, m, X⟩, hp, h15, k⟩ := h
    refine ⟨_, (pss_cons (ps_if (pt_cmpR op_eq (pe_fld (pv 0) rfl) (pgI W.g_CONFIRMING) (nomark _)) (pss_one (ps_ret (pe_or (pe_cmpR op_eq (pv 1) pe_int (nomark _)) (pe_one (pe_not (pe_fld (pv 0) rfl)))))) pss_nil)
      (pss_cons (ps_if (pt_cmpR op_eq (pv 1) pe_int (nomark _)) (pss_one (ps_ret pe_bl)) pss_nil)
      (pss_one (ps_ret (pe_or (pe_cmpR op_ne (pe_fld (pv 0) rfl) (pgI W.g_SUM_IS_JUDGED) (nomark _)) (pe_or (pe_fld (pv 0) rfl) (pe_one (pe_meth0 (pe_fld (pv 0) rfl) W.clH W.d_sum_is_right.m (ok_sum_is_right W) (hr.mono (by decide)) W.d_sum_is_right.b .nil pass0)))))))), ?_⟩
    have ph := X.ph
    rw [hp] at ph
    obtain ⟨hx, l, lo, run, e1, _, _, ha, eS, et⟩ := ph
    rw [← eS] at k
    unfold fits at k
    by_cases c : n = 1
    · rw [if_pos c] at k
      refine st_seq (st_yes (ans_eq (val_fld (val_var rfl) X.o W.cl W.n_tail_at rfl) val_c rfl (dst (c := 1) (et.trans c) rfl)) ?_)
      refine ⟨_, rfl, bv_scal b 0, _, rfl, ?_⟩
      refine ifB (!b) (bv_zero b) (fun d => ?_) (fun d => ?_)
      · rw [d] at k
        exact k
      · rw [d] at k
        exact ⟨_, rfl, x, W.C, dx, _, _, rfl, X.o, W.cl, W.n_is_sender, rfl, _, rfl, k⟩
    · rw [if_neg c] at k
      refine st_seq (st_no (ans_eq (val_fld (val_var rfl) X.o W.cl W.n_tail_at rfl) val_c rfl (dst (c := 1) et (decide_eq_false c))) ?_)
      by_cases d : b = false
      · rw [if_pos d] at k
        exact st_seq (st_yes (ans_eq (val_var rfl) val_c (bv_scal b 0) (by rw [d]; rfl)) k)
      · rw [if_neg d] at k
        have d' : b = true := by simpa using d
        refine st_seq (st_no (ans_eq (val_var rfl) val_c (bv_scal b 0) (by rw [d']; rfl)) ?_)
        refine ⟨_, rfl, x, W.C, dx, _, _, rfl, X.o, W.cl, W.n_tail_at, rfl, rfl, _, rfl, ?_⟩
        refine ifB (!decide (n = 2)) (congrArg (fun z => !z) (dst (c := 2) et rfl)) (fun f => ?_) (fun f => ?_)
        · rw [f] at k
          exact k
        · rw [f, Bool.false_or] at k
          refine ⟨_, rfl, x, W.C, dx, _, _, rfl, X.o, W.cl, W.n_is_sender, rfl, _, rfl, ?_⟩
          refine ifB m.isS rfl (fun g => ?_) (fun g => ?_)
          · rw [g, Bool.true_or] at k
            exact k
          · rw [g, Bool.false_or, good_is h15] at k
            obtain ⟨dh, hh⟩ := ha.o
            refine ⟨_, rfl, x, W.C, dx, _, _, rfl, X.o, W.cl, W.n_heard, rfl, hx, dh, _, e1, hh, rfl, hx, l, _, ?_, ha, k⟩
            rw [e1]
            rfl
/-! ### look, counted -/
def lookA (s : Ql84.St) : List Int := match s.got with
    | none => [-1]
    | some f => ((3 + f.data.length : Nat) : Int) :: cont f
theorem cont_length (f : Ql84.Frame) : (cont f).length = 3 + f.data.length := by
  unfold cont
  rw [List.length_cons, List.length_cons, List.length_cons, List.length_map]
  omega
def spLook (C HC : Addr) : Sp := fun vs H Q _ => ∃ (x : Addr) (A : List Addr) (s : Ql84.St), vs = [.ref x] ∧ NA C HC H x A s ∧ Wf s ∧ ∀ H' p, Same H H' → H p = none → H' p = some (.lst (ivs (lookA s))) → Q (.ref p) H'
theorem ok_look (W : Env K mg) : FnOk P w K mg base CX0 1 W.f_look W.fd_look ["self"] (spLook W.C W.HC) := by
  refine W.d_look.F.ok sc_look (fun vs H Q E h => ?_) (fun cdv A outer s H vs Q E hr h => ?_)
  · obtain ⟨_, _, _, rfl, _⟩ := h
    rfl
  · obtain ⟨x, A, s, rfl, ⟨dx, m, X⟩, wf, k⟩ := h
    refine ⟨_, (pss_cons (ps_if (pt_cmpR op_isN (pe_fld (pv 0) rfl) pe_non (nomark _)) (pss_one (ps_ret (pe_lst (pa_cons (pgI W.g_GOT_NONE) pa_nil)))) pss_nil)
      (pss_one (ps_ret (pe_op op_cat (pe_lst (pa_cons (pe_callB call_len_seq (by rfl) W.len PySem.boot_len (pa_cons (pe_fld (pv 0) rfl) pa_nil)) pa_nil)) (pe_fld (pv 0) rfl))))), ?_⟩
    have hg := X.b.got
    unfold gotL at hg
    unfold lookA at k
    cases eg : s.got with
    | none =>
      rw [eg] at hg k
      have hg : m.got = .non := hg
      refine st_seq (st_yes (ans_isN (val_fld (val_var rfl) X.o W.cl W.n_got rfl) (decide_eq_true hg)) ?_)
      refine ⟨by decide, fun p np => k _ p (same_upd np) np ?_⟩
      rw [upd_same]
      rfl
    | some f =>
      rw [eg] at hg k
      obtain ⟨a, ea, _, hHa⟩ := hg
      have hlen := (wf.got f eg).2.1
      refine st_seq (st_no (ans_isN (val_fld (val_var rfl) X.o W.cl W.n_got rfl) (by rw [ea]; rfl)) ?_)
      refine ⟨_, rfl, x, W.C, dx, _, _, rfl, X.o, W.cl, W.n_got, rfl, a, _, ?_, .inl (SqL.of hHa), (by show 1 ≤ sizeLine; decide), fun p np => ?_⟩
      · rw [ea]
      have X2 : upd H p (.lst [.int ((ivs (cont f)).length : Int)]) x = some (.ins W.C dx m.fs) := upd_old X.o np
      refine ⟨_, rfl, x, W.C, dx, _, _, rfl, X2, W.cl, W.n_got, rfl, p, a, _, _, rfl, ea, upd_same, upd_old hHa np, ?_, fun q nq => ?_⟩
      · refine lt_line ?_
        rw [ivs_length, cont_length]
        show 1 + _ ≤ _
        omega
      · have s1 := same_upd (o := .lst [.int ((ivs (cont f)).length : Int)]) np
        refine k _ q (s1.trans (same_upd nq)) (s1.free nq) ?_
        rw [upd_same, ivs_length, cont_length]
        rfl
def countA (s : Ql84.St) (z : Int) : Int := if z = 0 then (s.sent : Int) else if z = 1 then (s.heard : Int) else if z = 2 then (s.phase.number : Int) else -2
def spCounted (C HC : Addr) : Sp := fun vs H Q _ => ∃ (x : Addr) (A : List Addr) (s : Ql84.St) (z : Int), vs = [.ref x, .int z] ∧ NA C HC H x A s ∧ Q (.int (countA s z)) H
theorem int_eq {a c : Int} {b : Bool} (h : decide (a = c) = b) : decide (V.int a = V.int c) = b := by
  rw [dec_int, ← h, Bool.eq_iff_iff, beq_iff_eq, decide_eq_true_iff]
theorem ok_counted (W : Env K mg) : FnOk P w K mg base CX0 1 W.f_counted W.fd_counted ["self", "what"] (spCounted W.C W.HC) := by
  refine W.d_counted.F.ok sc_counted (fun vs H Q E h => ?_) (fun cdv A outer s H vs Q E hr h => ?_)
  · obtain ⟨_, _, _, _, rfl, _⟩ := h
    rfl
  · obtain ⟨x, A, s, z, rfl, ⟨dx, m, X⟩, k⟩ := h
    refine ⟨_, (pss_cons (ps_if (pt_cmpR op_eq (pv 1) (pgI W.g_COUNT_SENDER_ERRORS) (nomark _)) (pss_one (ps_ret (pe_fld (pv 0) rfl))) pss_nil)
      (pss_cons (ps_if (pt_cmpR op_eq (pv 1) (pgI W.g_COUNT_HEARER_ERRORS) (nomark _)) (pss_one (ps_ret (pe_fld (pv 0) rfl))) pss_nil)
      (pss_cons (ps_if (pt_cmpR op_eq (pv 1) (pgI W.g_COUNT_STATE) (nomark _)) (pss_one (ps_ret (pe_fld (pv 0) rfl))) pss_nil)
      (pss_one (ps_ret (pgI W.g_OUT_OF_RANGE)))))), ?_⟩
    unfold countA at k
    rw [← X.b.se, ← X.b.he, ← X.st] at k
    by_cases c0 : z = 0
    · rw [if_pos c0] at k
      refine st_seq (st_yes (ans_eq (val_var rfl) val_c rfl (int_eq (decide_eq_true c0))) ?_)
      exact ⟨_, rfl, x, W.C, dx, _, _, rfl, X.o, W.cl, W.n_sender_errors, rfl, k⟩
    rw [if_neg c0] at k
    refine st_seq (st_no (ans_eq (val_var rfl) val_c rfl (int_eq (decide_eq_false c0))) ?_)
    by_cases c1 : z = 1
    · rw [if_pos c1] at k
      refine st_seq (st_yes (ans_eq (val_var rfl) val_c rfl (int_eq (decide_eq_true c1))) ?_)
      exact ⟨_, rfl, x, W.C, dx, _, _, rfl, X.o, W.cl, W.n_hearer_errors, rfl, k⟩
    rw [if_neg c1] at k
    refine st_seq (st_no (ans_eq (val_var rfl) val_c rfl (int_eq (decide_eq_false c1))) ?_)
    by_cases c2 : z = 2
    · rw [if_pos c2] at k
      refine st_seq (st_yes (ans_eq (val_var rfl) val_c rfl (int_eq (decide_eq_true c2))) ?_)
      exact ⟨_, rfl, x, W.C, dx, _, _, rfl, X.o, W.cl, W.n_state, rfl, k⟩
    rw [if_neg c2] at k
    exact st_seq (st_no (ans_eq (val_var rfl) val_c rfl (int_eq (decide_eq_false c2))) k)
end
end Cw

namespace Cw
open PySem PySem.Spec PyProof.Rows L2
open Ql84 (Bits numberOf sum wire)
/-! ### the document's hearing, phase by phase -/
theorem hears_flag {s : Ql84.St} {k : Nat} (b : Bool) (hp : s.phase = .flag k) : s.hears b = ({ s with phase := if k = 5 then .rest 0 else .flag (k + 1) }, 0) := by
  unfold Ql84.St.hears
  rw [hp]
theorem hears_rest {s : Ql84.St} {k : Nat} (b : Bool) (hp : s.phase = .rest k) : s.hears b = ({ s with phase := if b = false then .rest 0 else if k = 10 then .idle else .rest (k + 1) }, 0) := by
  unfold Ql84.St.hears
  rw [hp]
theorem hears_off {s : Ql84.St} (b : Bool) (hp : s.phase = .off) : s.hears b = (s, 0) := by
  unfold Ql84.St.hears
  rw [hp]
theorem hears_idle1 {s : Ql84.St} (hp : s.phase = .idle) : s.hears true = (s, 0) := by
  unfold Ql84.St.hears
  rw [hp]
  rfl
theorem hears_idle0 {s : Ql84.St} (hp : s.phase = .idle) : s.hears false = ({ s with phase := .body [false] false 1, sending := s.want.map fun (f : Ql84.Frame) => (wire f).drop 1 }, 0) := by
  unfold Ql84.St.hears
  rw [hp]
  rfl
theorem hears_tail {s : Ql84.St} {k : Nat} {seen : Bits} (b : Bool) (hp : s.phase = .tail k seen) : s.hears b = if fits k s.sending.isSome (Ql84.good seen) b = false then s.error else if k = 9 then s.done seen else ({ s with phase := .tail (k + 1) seen }, 0) := by
  unfold Ql84.St.hears
  rw [hp]
  dsimp only
  unfold fits
  rw [← not_some]
  by_cases c : k = 1
  · subst c
    rw [if_pos rfl, if_pos rfl, if_neg (show ¬ (1 : Nat) = 9 by decide)]
    cases s.sending.isSome <;> cases b <;> simp
  · rw [if_neg c, if_neg c]
    cases b
    · simp
    · cases s.sending.isSome <;> cases Ql84.good seen <;> by_cases d : k = 2 <;> simp [d]
theorem error_ne (s : Ql84.St) : s.error.2 ≠ 0 := by
  unfold Ql84.St.error
  split
  · split
    · exact (show (5 : Nat) ≠ 0 by decide)
    · exact (show (3 : Nat) ≠ 0 by decide)
  · exact (show (3 : Nat) ≠ 0 by decide)
section
variable {P : Program} {w : World} {K : PySem.W.Frag} {mg : Str → Option Value} {base : Heap}
def spHearP (C HC : Addr) (pre : Ql84.Phase → Prop) : Sp := fun vs H Q _ => ∃ (x : Addr) (A : List Addr) (s : Ql84.St) (b : Bool), vs = [.ref x, bv b] ∧ NA C HC H x A s ∧ Wf s ∧ pre s.phase ∧ ∀ H' A', NA C HC H' x A' (s.hears b).1 → Stepd H H' x A A' → Q (.int ((s.hears b).2 : Int)) H'
/-! ### hear_telling, hear_waiting -/
def spTelling (C HC : Addr) : Sp := fun vs H Q _ => ∃ (x : Addr) (A : List Addr) (s : Ql84.St) (n : Nat) (b : Bool), vs = [.ref x] ∧ NA C HC H x A s ∧ s.phase = .flag n ∧ ∀ H' A', NA C HC H' x A' (s.hears b).1 → Stepd H H' x A A' → Q (.int ((s.hears b).2 : Int)) H'
theorem ok_hear_telling (W : Env K mg) : FnOk P w K mg base CX0 1 W.f_hear_telling W.fd_hear_telling ["self"] (spTelling W.C W.HC) := by
  refine W.d_hear_telling.F.ok sc_hear_telling (fun vs H Q E h => ?_) (fun cdv A outer s H vs Q E hr h => ?_)
  · obtain ⟨_, _, _, _, _, rfl, _⟩ := h
    rfl
  · obtain ⟨x, A, s, n, b, rfl, ⟨dx, m, X⟩, hp, k⟩ := h
    refine ⟨_, (pss_cons (ps_fldaug (pv 0) pe_int in_add)
      (pss_cons (ps_if (pt_cmpR op_eq (pe_fld (pv 0) rfl) (pgI W.g_BITS_OF_TELLING) (nomark _)) (pss_cons (ps_fld (pv 0) (pgI W.g_WAITING) rfl)
      (pss_one (ps_fld (pv 0) pe_int rfl))) pss_nil)
      (pss_one (ps_ret (pgI W.g_DONE))))), ?_⟩
    have ph := X.ph
    have hst := X.st
    rw [hp] at ph hst
    have ph : m.told = n := ph
    rw [hears_flag b hp] at k
    refine st_seq (st_aug (K := K) (a := x) (C := W.C) (dx := dx) (fs := m.fs) (z := .int ((m.told + 1 : Nat) : Int)) (val_var rfl) X.o W.cl W.n_told rfl val_c (fun Q q => ⟨_, _, rfl, rfl, q⟩) (by show 11 < 1000; decide) ?_)
    have hx1 : upd H x (.ins W.C dx ({ m with told := m.told + 1 } : NM).fs) x = some (.ins W.C dx ({ m with told := m.told + 1 } : NM).fs) := upd_same
    by_cases c : n = 5
    · rw [if_pos c] at k
      refine st_seq (st_yes (ans_eq (val_fld (val_var rfl) hx1 W.cl W.n_told rfl) val_c rfl (dst (c := 6) (n := 6) (by show m.told + 1 = 6; omega) rfl)) ?_)
      refine ⟨_, rfl, x, W.C, dx, _, rfl, hx1, W.cl, W.n_state, (by show 11 < 1000; decide), ?_⟩
      refine ⟨_, rfl, x, W.C, dx, _, rfl, upd_same, W.cl, W.n_ones, (by show 11 < 1000; decide), ?_⟩
      show Q (.int 0) (upd (upd (upd H x _) x _) x (.ins W.C dx ({ m with told := m.told + 1, state := 4, ones := 0 } : NM).fs))
      rw [upd_upd, upd_upd]
      exact k _ A ⟨dx, _, X.own ⟨X.b.se, X.b.he, X.b.want, X.b.got⟩ rfl rfl⟩ Stepd.upd
    · rw [if_neg c] at k
      refine st_seq (st_no (ans_eq (val_fld (val_var rfl) hx1 W.cl W.n_told rfl) val_c rfl (dst (c := 6) rfl (decide_eq_false (by show ¬ m.told + 1 = 6; omega)))) ?_)
      exact k _ A ⟨dx, _, X.own (m' := { m with told := m.told + 1 }) ⟨X.b.se, X.b.he, X.b.want, X.b.got⟩ hst (by show m.told + 1 = n + 1; omega)⟩ Stepd.upd
theorem ok_hear_waiting (W : Env K mg) : FnOk P w K mg base CX0 1 W.f_hear_waiting W.fd_hear_waiting ["self", "bit"] (spHearP W.C W.HC fun p => ∃ n, p = .rest n) := by
  refine W.d_hear_waiting.F.ok sc_hear_waiting (fun vs H Q E h => ?_) (fun cdv A outer s H vs Q E hr h => ?_)
  · obtain ⟨_, _, _, _, rfl, _⟩ := h
    rfl
  · obtain ⟨x, A, s, b, rfl, ⟨dx, m, X⟩, wf, ⟨n, hp⟩, k⟩ := h
    refine ⟨_, (pss_cons (ps_fld (pv 0) (pe_ifExp (pt_cmpR op_eq (pv 1) pe_int (nomark _)) (pe_op op_add (pe_fld (pv 0) rfl) pe_int) pe_int) rfl)
      (pss_cons (ps_if (pt_cmpR op_eq (pe_fld (pv 0) rfl) (pgI W.g_ONES_UNTIL_IDLE) (nomark _)) (pss_one (ps_fld (pv 0) (pgI W.g_IDLE) rfl)) pss_nil)
      (pss_one (ps_ret (pgI W.g_DONE))))), ?_⟩
    have ph := X.ph
    have hst := X.st
    have hn := wf.ph
    rw [hp] at ph hst hn
    have ph : m.ones = n := ph
    have hn : n ≤ 10 := hn
    rw [hears_rest b hp] at k
    refine st_seq (st_fld (K := K) (a := x) (C := W.C) (dx := dx) (fs := m.fs) (y := .int ((if b = true then m.ones + 1 else 0 : Nat) : Int)) ?_ (val_var rfl) X.o W.cl W.n_ones (by show 11 < 1000; decide) ?_)
    · intro R r
      refine ⟨_, rfl, bv_scal b 1, _, rfl, ?_⟩
      refine ifB b (bv_one b) (fun c => ?_) (fun c => ?_)
      · rw [if_pos c] at r
        exact ⟨_, rfl, x, W.C, dx, _, _, rfl, X.o, W.cl, W.n_ones, rfl, _, _, rfl, rfl, r⟩
      · rw [if_neg (by rw [c]; decide)] at r
        exact r
    obtain ⟨o, eo⟩ : ∃ o, o = (if b = true then m.ones + 1 else 0 : Nat) := ⟨_, rfl⟩
    rw [← eo]
    have hx1 : upd H x (.ins W.C dx ({ m with ones := o } : NM).fs) x = some (.ins W.C dx ({ m with ones := o } : NM).fs) := upd_same
    by_cases c : o = 11
    · have hb : b = true := by
        cases b with
        | true => rfl
        | false => rw [if_neg (by decide)] at eo; omega
      subst hb
      rw [if_pos rfl] at eo
      rw [if_neg (show ¬ (true : Bool) = false by decide), if_pos (show n = 10 by omega)] at k
      refine st_seq (st_yes (ans_eq (val_fld (val_var rfl) hx1 W.cl W.n_ones rfl) val_c rfl (dst (c := 11) c rfl)) ?_)
      refine ⟨_, rfl, x, W.C, dx, _, rfl, hx1, W.cl, W.n_state, (by show 11 < 1000; decide), ?_⟩
      show Q (.int 0) (upd (upd H x _) x (.ins W.C dx ({ m with ones := o, state := 0 } : NM).fs))
      rw [upd_upd]
      exact k _ A ⟨dx, _, X.own ⟨X.b.se, X.b.he, X.b.want, X.b.got⟩ rfl trivial⟩ Stepd.upd
    · refine st_seq (st_no (ans_eq (val_fld (val_var rfl) hx1 W.cl W.n_ones rfl) val_c rfl (dst (c := 11) rfl (decide_eq_false c))) ?_)
      refine k _ A ⟨dx, { m with ones := o }, ?_⟩ Stepd.upd
      cases b with
      | true =>
        rw [if_pos rfl] at eo
        rw [if_neg (show ¬ (true : Bool) = false by decide), if_neg (show ¬ n = 10 by omega)]
        exact X.own (m' := { m with ones := o }) ⟨X.b.se, X.b.he, X.b.want, X.b.got⟩ hst (by show o = n + 1; omega)
      | false =>
        rw [if_neg (by decide)] at eo
        rw [if_pos rfl]
        exact X.own (m' := { m with ones := o }) ⟨X.b.se, X.b.he, X.b.want, X.b.got⟩ hst eo
/-! ### send -/
def sendA (s : Ql84.St) (id n : Int) (bs : List Int) : Ql84.St × Int := if (0 ≤ id ∧ id ≤ 2047) ∧ n ≤ 8 then (if s.want.isSome = true then (s, -1) else ({ s with want := some ⟨id.toNat, Ql84Neutral.nats bs⟩ }, 0)) else (s, -2)
def spSend (K : PySem.W.Frag) (C HC : Addr) : Sp := fun vs H Q _ => ∃ (x : Addr) (A : List Addr) (s : Ql84.St) (id n : Int) (d : Addr) (bs : List Int), vs = [.ref x, .int id, .int n, .ref d] ∧ NA C HC H x A s ∧ Wf s ∧ SqL K H d (ivs bs) ∧ Ql84Neutral.asked1 [[1, id, n], bs] = true ∧
  ∀ H' A', NA C HC H' x A' (sendA s id n bs).1 → Stepd H H' x A A' → Q (.int (sendA s id n bs).2) H'
theorem nvs_nats {bs : List Int} (h : ∀ z ∈ bs, 0 ≤ z) : nvs (Ql84Neutral.nats bs) = ivs bs := by
  show ((bs.map Int.toNat).map fun (x : Nat) => V.int x) = bs.map V.int
  rw [List.map_map]
  apply List.map_congr_left
  intro z hz
  show V.int ((z.toNat : Nat) : Int) = V.int z
  rw [Int.toNat_of_nonneg (h z hz)]
theorem ok_send (W : Env K mg) : FnOk P w K mg base CX0 4 W.f_send W.fd_send ["self", "name", "length", "data"] (spSend K W.C W.HC) := by
  refine W.d_send.F.ok sc_send (fun vs H Q E h => ?_) (fun cdv A outer s H vs Q E hr h => ?_)
  · obtain ⟨_, _, _, _, _, _, _, rfl, _⟩ := h
    rfl
  · obtain ⟨x, A, s, id, n, d, bs, rfl, na, wf, hS, hask, k⟩ := h
    obtain ⟨dx, m, X⟩ := na
    refine ⟨_, (pss_cons (ps_if (pt_not (pt_val (pe_call (ok_may_be_sent W) (hr.mono (by decide)) rfl W.d_may_be_sent.m W.d_may_be_sent.F.kp W.d_may_be_sent.b .nil pass0 (pa_cons (pv 1) (pa_cons (pv 2) pa_nil))))) (pss_one (ps_ret (pgI W.g_OUT_OF_RANGE))) pss_nil)
      (pss_cons (ps_if (pt_cmpR op_notN (pe_fld (pv 0) rfl) pe_non (nomark _)) (pss_one (ps_ret (pgI W.g_WANTS_ONE_ALREADY))) pss_nil)
      (pss_cons (ps_fld (pv 0) (pe_call (ok_stuffed W) (hr.mono (by decide)) rfl W.d_stuffed.m W.d_stuffed.F.kp W.d_stuffed.b .nil pass0 (pa_cons (pe_call (ok_frame_bits W) (hr.mono (by decide)) rfl W.d_frame_bits.m W.d_frame_bits.F.kp W.d_frame_bits.b .nil pass0 (pa_cons (pv 1) (pa_cons (pv 3) pa_nil))) pa_nil)) rfl)
      (pss_one (ps_ret (pgI W.g_DONE)))))), ?_⟩
    unfold sendA at k
    refine ⟨_, rfl, _, rfl, id, n, rfl, _, rfl, ?_⟩
    refine ifB (!decide ((0 ≤ id ∧ id ≤ 2047) ∧ n ≤ 8)) rfl (fun c => ?_) (fun c => ?_)
    · have c : ¬ ((0 ≤ id ∧ id ≤ 2047) ∧ n ≤ 8) := by
        intro z
        rw [decide_eq_true z] at c
        exact absurd c (by decide)
      rw [if_neg c] at k
      exact k H A ⟨dx, m, X⟩ (Stepd.refl H x A)
    · have c : (0 ≤ id ∧ id ≤ 2047) ∧ n ≤ 8 := by
        have c2 := congrArg (fun z => !z) c
        rw [Bool.not_not] at c2
        exact of_decide_eq_true c2
      rw [if_pos c] at k
      have hw := X.b.want.isN
      have ew : (wantL s).isNone = s.want.isNone := by
        unfold wantL
        cases s.want <;> rfl
      rw [ew] at hw
      cases es : s.want with
      | some f =>
        rw [es] at k hw
        refine st_seq (st_yes (ans_notN (val_fld (val_var rfl) X.o W.cl W.n_wanted rfl) (by rw [hw]; rfl)) ?_)
        exact k H A ⟨dx, m, X⟩ (Stepd.refl H x A)
      | none =>
        rw [es] at k hw
        refine st_seq (st_no (ans_notN (val_fld (val_var rfl) X.o W.cl W.n_wanted rfl) (by rw [hw]; rfl)) ?_)
        have k : ∀ H' A', NA W.C W.HC H' x A' { s with want := some ⟨id.toNat, Ql84Neutral.nats bs⟩ } → Stepd H H' x A A' → Q (.int 0) H' := k
        obtain ⟨fr, efr⟩ : ∃ fr : Ql84.Frame, fr = ⟨id.toNat, Ql84Neutral.nats bs⟩ := ⟨_, rfl⟩
        rw [← efr] at k
        have ok : fr.Ok := by
          rw [efr]
          exact frame_ok hask c.1.1 c.1.2
        have hnn : ∀ z ∈ bs, 0 ≤ z := fun z hz => ((asked_send hask).2.2.1 z hz).1
        refine ⟨_, rfl, _, rfl, d, fr, ?_, ?_, ok, fun H1 p s1 np hp1 => ?_⟩
        · rw [efr]
          show [V.int id, V.ref d] = [V.int ((id.toNat : Nat) : Int), V.ref d]
          rw [Int.toNat_of_nonneg c.1.1]
        · rw [efr, show nvs (Ql84.Frame.mk id.toNat (Ql84Neutral.nats bs)).data = ivs bs from nvs_nats hnn]
          exact hS
        refine ⟨p, Ql84.plain fr, rfl, SqL.of hp1, ?_, fun H2 q s2 nq hq => ?_⟩
        · rw [plain_length]
          have := ok.2.1
          omega
        have s02 := s1.trans s2
        have nqH : H q = none := s1.free nq
        have hx2 : H2 x = some (.ins W.C dx m.fs) := s02 _ _ X.o
        have qx : q ≠ x := by
          intro e
          rw [e, X.o] at nqH
          cases nqH
        have qA : q ∉ A := by
          intro e
          obtain ⟨u, hu⟩ := X.alive q e
          rw [hu] at nqH
          cases nqH
        refine ⟨_, rfl, x, W.C, dx, _, rfl, hx2, W.cl, W.n_wanted, (by show 11 < 1000; decide), ?_⟩
        have nS : s.sending = none := by
          cases e : s.sending with
          | none => rfl
          | some todo =>
            obtain ⟨f, hf, _⟩ := wf.send todo e
            rw [es] at hf
            cases hf
        have ne : ∀ b, b ∈ A → b ≠ x := fun b hb e => X.xA (e ▸ hb)
        have kp : ∀ b u, b ∈ A → H b = some u → upd H2 x (.ins W.C dx ({ m with wanted := .ref q } : NM).fs) b = some u := fun b u hb e => by
          rw [upd_ne (ne b hb)]
          exact s02 b u e
        refine k _ (q :: A) ⟨dx, { m with wanted := .ref q }, upd_same, ?_, ?_, ⟨X.b.se, X.b.he, ?_, ?_⟩, X.st, ?_⟩ ⟨fun b hb => List.mem_cons_of_mem _ hb, fun b hb => ?_, fun b o e n1 _ => ?_⟩
        · intro e
          rcases List.mem_cons.mp e with e | e
          · exact qx e.symm
          · exact X.xA e
        · intro b hb
          rcases List.mem_cons.mp hb with e | e
          · exact ⟨_, by rw [e, upd_ne qx]; exact hq⟩
          · obtain ⟨u, hu⟩ := X.alive b e
            exact ⟨u, kp b u e hu⟩
        · exact ⟨q, rfl, List.mem_cons_self .., by rw [upd_ne qx]; exact hq⟩
        · exact X.b.got.keep (fun b hb => List.mem_cons_of_mem _ hb) fun b u hb _ e => kp b u hb e
        · have ph := X.ph.keep (A' := q :: A) (fun b hb => List.mem_cons_of_mem _ hb) (fun b u hb e => kp b u hb e)
          show PhR W.HC _ _ _ _ s.phase
          cases hp : s.phase with
          | idle => exact trivial
          | off => exact trivial
          | flag n =>
            rw [hp] at ph
            exact ph
          | rest n =>
            rw [hp] at ph
            exact ph
          | tail n seen =>
            rw [hp] at ph
            exact ph
          | body seen last run =>
            have ph0 := X.ph
            rw [hp] at ph ph0
            obtain ⟨hx, l, h1, h2, h3, h4, h5, h6, h7, h8⟩ := ph
            refine ⟨hx, l, h1, h2, h3, h4, h5, fun todo e => ?_, fun e => ?_, h8⟩
            · have e : s.sending = some todo := e
              rw [nS] at e
              cases e
            · have e : q = l := by
                have : V.ref q = V.ref l := e
                injection this
              obtain ⟨hx', l', g1, g2, g3, g4, g5, g6, g7, g8⟩ := ph0
              rw [g1] at h1
              have : hx' = hx := by
                injection h1
              subst this
              have hl1 := h4.o
              obtain ⟨d1, hd1⟩ := h4.o
              obtain ⟨d2, hd2⟩ := g4.o
              rw [kp hx' _ g2 hd2] at hd1
              have : l' = l := by
                injection hd1 with z
                injection z with _ _ z3
                have z4 := congrArg (fun (l : List (Str × V)) => l.lookup ("bits" : Str)) z3
                have z5 : some (V.ref l') = some (V.ref l) := z4
                injection z5 with z6
                injection z6
              subst this
              exact qA (e ▸ g3)
        · rcases List.mem_cons.mp hb with e | e
          · exact .inr (e ▸ nqH)
          · exact .inl e
        · rw [upd_ne n1]
          exact s02 b o e
end
end Cw

namespace Cw
open PySem PySem.Spec PyProof.Rows L2
open Ql84 (Bits numberOf sum wire)
section
variable {P : Program} {w : World} {K : PySem.W.Frag} {mg : Str → Option Value} {base : Heap}
/-! ### storing a field, and saying what stands there then -/
section
variable {σ : L2.St} {H : Hp} {x dx C : Addr} {fs fs' : List (Str × V)} {f : Str} {y : V} {tv : TE} {i : Nat} {D : Ends}
theorem st_nf (fs' : List (Str × V)) (hv : Val tv σ H y) (hs : σ[i]? = some (some (.ref x))) (ho : H x = some (.ins C dx fs)) (hc : Cls K C) (hn : NoAttr K C f) (hl : fs.length < 1000) (e : putF f y fs = fs') (q : D.nx σ (upd H x (.ins C dx fs'))) : sFld K (tVar i) tv f D σ H :=
  st_fld hv (val_var hs) ho hc hn hl (by rw [e]; exact q)
theorem st_nf2 (fs' : List (Str × V)) (hv : Val tv σ (upd H x (.ins C dx fs)) y) (hs : σ[i]? = some (some (.ref x))) (hc : Cls K C) (hn : NoAttr K C f) (hl : fs.length < 1000) (e : putF f y fs = fs') (q : D.nx σ (upd H x (.ins C dx fs'))) : sFld K (tVar i) tv f D σ (upd H x (.ins C dx fs)) :=
  st_fld hv (val_var hs) upd_same hc hn hl (by rw [e, upd_upd]; exact q)
end
theorem fs_len (m : NM) : m.fs.length < 1000 := by show 11 < 1000; decide
/-! ### end_frame, hear_in_tail -/
def spEndFrame (C HC : Addr) : Sp := fun vs H Q _ => ∃ (x : Addr) (A : List Addr) (s : Ql84.St) (n : Nat) (seen : Bits), vs = [.ref x] ∧ NA C HC H x A s ∧ s.phase = .tail n seen ∧ seen.length = 34 + 8 * told4 seen ∧ told4 seen ≤ 8 ∧
  ∀ H' A', NA C HC H' x A' (s.done seen).1 → Stepd H H' x A A' → Q (.int ((s.done seen).2 : Int)) H'
theorem less_one (n : Nat) : (if (0 : Int) > ((n : Int) - 1) then (0 : Int) else (n : Int) - 1) = ((n - 1 : Nat) : Int) := by
  split <;> omega
theorem ok_end_frame (W : Env K mg) : FnOk P w K mg base CX0 5 W.f_end_frame W.fd_end_frame ["self"] (spEndFrame W.C W.HC) := by
  refine W.d_end_frame.F.ok sc_end_frame (fun vs H Q E h => ?_) (fun cdv A outer s H vs Q E hr h => ?_)
  · obtain ⟨_, _, _, _, _, rfl, _⟩ := h
    rfl
  · obtain ⟨x, A, s, n, seen, rfl, ⟨dx, m, X⟩, hp, hlen, h8, k⟩ := h
    refine ⟨_, (pss_cons (ps_set (i := 1) sc_end_frame.nd rfl (Or.inl rfl) (pe_fld (pv 0) rfl))
      (pss_cons (ps_fld (pv 0) (pgI W.g_WAITING) rfl)
      (pss_cons (ps_fld (pv 0) (pgI W.g_ONES_OF_TAIL) rfl)
      (pss_cons (ps_fld (pv 0) pe_bl rfl)
      (pss_cons (ps_if (pt_val (pv 1)) (pss_cons (ps_fld (pv 0) pe_non rfl)
      (pss_cons (ps_fld (pv 0) (pe_callB (call_max2 rfl) (by rfl) W.max (by decide +kernel) (pa_cons (pe_op op_sub (pe_fld (pv 0) rfl) pe_int) (pa_cons pe_int pa_nil))) rfl)
      (pss_one (ps_ret (pgI W.g_OWN_IS_THROUGH))))) pss_nil)
      (pss_cons (ps_fld (pv 0) (pe_meth0 (pe_fld (pv 0) rfl) W.clH W.d_contents.m (ok_contents W) (hr.mono (by decide)) W.d_contents.b .nil pass0) rfl)
      (pss_cons (ps_fld (pv 0) (pe_callB (call_max2 rfl) (by rfl) W.max (by decide +kernel) (pa_cons (pe_op op_sub (pe_fld (pv 0) rfl) pe_int) (pa_cons pe_int pa_nil))) rfl)
      (pss_one (ps_ret (pgI W.g_GOT_FRAME)))))))))), ?_⟩
    have ph := X.ph
    rw [hp] at ph
    obtain ⟨hx, l, lo, run, e1, hxA, hlA, ha, eS, et⟩ := ph
    have ne : ∀ b, b ∈ A → b ≠ x := fun b hb e => X.xA (e ▸ hb)
    refine ⟨_, rfl, x, W.C, dx, _, _, rfl, X.o, W.cl, W.n_is_sender, rfl, ?_⟩
    refine st_seq (st_nf ({ m with state := 4 } : NM).fs val_c rfl X.o W.cl W.n_state (fs_len m) rfl ?_)
    refine st_seq (st_nf2 ({ m with state := 4, ones := 8 } : NM).fs val_c rfl W.cl W.n_ones (fs_len _) rfl ?_)
    refine st_seq (st_nf2 ({ m with state := 4, ones := 8, isS := false } : NM).fs val_c rfl W.cl W.n_is_sender (fs_len _) rfl ?_)
    obtain ⟨m1, em1⟩ : ∃ m1 : NM, m1 = { m with state := 4, ones := 8, isS := false } := ⟨_, rfl⟩
    rw [← em1]
    have hx1 : upd H x (.ins W.C dx m1.fs) x = some (.ins W.C dx m1.fs) := upd_same
    unfold Ql84.St.done at k
    rw [← eS] at k
    by_cases c : m.isS = true
    · rw [if_pos c] at k
      refine st_seq (st_yes (ans_val (val_var (by rw [← c]; rfl))) ?_)
      refine st_seq (st_nf2 ({ m1 with wanted := .non } : NM).fs val_c rfl W.cl W.n_wanted (fs_len _) rfl ?_)
      dsimp only
      refine st_seq (st_fld (K := K) (a := x) (C := W.C) (dx := dx) (fs := ({ m1 with wanted := .non } : NM).fs) (y := .int ((m1.se - 1 : Nat) : Int)) ?_ (val_var rfl) upd_same W.cl W.n_sender_errors (fs_len _) ?_)
      · intro R r
        refine ⟨_, rfl, x, W.C, dx, _, _, rfl, upd_same, W.cl, W.n_sender_errors, rfl, _, _, rfl, rfl, _, _, rfl, ?_⟩
        rw [← less_one] at r
        exact r
      rw [upd_upd]
      exact k (upd H x (.ins W.C dx ({ m1 with wanted := .non, se := m1.se - 1 } : NM).fs)) A ⟨dx, _, X.own ⟨by rw [em1]; exact congrArg (· - 1) X.b.se, by rw [em1]; exact X.b.he, rfl, by rw [em1]; exact X.b.got⟩ (by rw [em1]; rfl) (by rw [em1]; rfl)⟩ Stepd.upd
    · rw [if_neg c] at k
      have c' : m.isS = false := by simpa using c
      refine st_seq (st_no (ans_val (val_var (by rw [← c']; rfl))) ?_)
      have e1' : m1.heard = .ref hx := by rw [em1]; exact e1
      have ha1 : HAt W.HC (upd H x (.ins W.C dx m1.fs)) hx l ⟨seen, lo, run⟩ := ha.keep fun b o q e => by
        have bx : b ≠ x := by
          rcases q with q | q
          · exact q ▸ ne _ hxA
          · exact q ▸ ne _ hlA
        rw [upd_ne bx]
        exact e
      obtain ⟨dh, hh⟩ := ha1.o
      refine ⟨_, rfl, x, W.C, dx, _, _, rfl, hx1, W.cl, W.n_heard, rfl, hx, dh, _, e1', hh, rfl, hx, l, ⟨seen, lo, run⟩, ?_, ha1, hlen, h8, fun H2 p s2 np hp2 => ?_⟩
      · rw [e1']
        rfl
      have hx2 : H2 x = some (.ins W.C dx m1.fs) := s2 _ _ hx1
      have px : p ≠ x := by
        intro e
        rw [e, hx1] at np
        cases np
      have npH : H p = none := by
        rw [upd_ne px] at np
        exact np
      refine ⟨_, rfl, x, W.C, dx, _, rfl, hx2, W.cl, W.n_got, (by show 11 < 1000; decide), ?_⟩
      refine ⟨_, rfl, x, W.C, dx, _, _, rfl, upd_same, W.cl, W.n_hearer_errors, rfl, _, _, rfl, rfl, _, _, rfl, ?_⟩
      refine ⟨_, rfl, x, W.C, dx, _, rfl, upd_same, W.cl, W.n_hearer_errors, (by show 11 < 1000; decide), ?_⟩
      show Q (.int 1) (upd (upd H2 x _) x (.ins W.C dx (putF "hearer_errors" (.int (if (0 : Int) > ((m1.he : Int) - 1) then (0 : Int) else (m1.he : Int) - 1)) ({ m1 with got := .ref p } : NM).fs)))
      rw [upd_upd, less_one]
      have kp : ∀ b u, b ∈ A → H b = some u → upd H2 x (.ins W.C dx ({ m1 with got := .ref p, he := m1.he - 1 } : NM).fs) b = some u := fun b u hb e => by
        rw [upd_ne (ne b hb)]
        refine s2 b u ?_
        rw [upd_ne (ne b hb)]
        exact e
      refine k (upd H2 x (.ins W.C dx ({ m1 with got := .ref p, he := m1.he - 1 } : NM).fs)) (p :: A) ⟨dx, { m1 with got := .ref p, he := m1.he - 1 }, upd_same, ?_, ?_, ⟨?_, ?_, ?_, ?_⟩, ?_, ?_⟩ ⟨fun b hb => List.mem_cons_of_mem _ hb, fun b hb => ?_, fun b o e n1 _ => ?_⟩
      · intro e
        rcases List.mem_cons.mp e with e | e
        · exact px e.symm
        · exact X.xA e
      · intro b hb
        rcases List.mem_cons.mp hb with e | e
        · exact ⟨_, by rw [e, upd_ne px]; exact hp2⟩
        · obtain ⟨u, hu⟩ := X.alive b e
          exact ⟨u, kp b u e hu⟩
      · rw [em1]
        exact X.b.se
      · rw [em1]
        exact congrArg (· - 1) X.b.he
      · rw [em1] at kp ⊢
        exact X.b.want.keep (fun b hb => List.mem_cons_of_mem _ hb) fun b u hb _ e => kp b u hb e
      · exact ⟨p, rfl, List.mem_cons_self .., by rw [upd_ne px]; exact hp2⟩
      · rw [em1]
        rfl
      · rw [em1]
        exact rfl
      · rcases List.mem_cons.mp hb with e | e
        · exact .inr (e ▸ npH)
        · exact .inl e
      · rw [upd_ne n1]
        refine s2 b o ?_
        rw [upd_ne n1]
        exact e
theorem ok_hear_in_tail (W : Env K mg) : FnOk P w K mg base CX0 6 W.f_hear_in_tail W.fd_hear_in_tail ["self", "bit"] (spHearP W.C W.HC fun p => ∃ n seen, p = .tail n seen) := by
  refine W.d_hear_in_tail.F.ok sc_hear_in_tail (fun vs H Q E h => ?_) (fun cdv A outer s H vs Q E hr h => ?_)
  · obtain ⟨_, _, _, _, rfl, _⟩ := h
    rfl
  · obtain ⟨x, A, s, b, rfl, na, wf, ⟨n, seen, hp⟩, k⟩ := h
    refine ⟨_, (pss_cons (ps_if (pt_not (pt_val (pe_meth (pv 0) W.cl W.d_fits_tail.m (ok_fits_tail W) (hr.mono (by decide)) W.d_fits_tail.b .nil pass0 (pa_cons (pv 1) pa_nil)))) (pss_one (ps_ret (pe_meth0 (pv 0) W.cl W.d_fail.m (ok_fail W) (hr.mono (by decide)) W.d_fail.b .nil pass0))) pss_nil)
      (pss_cons (ps_if (pt_cmpR op_eq (pe_fld (pv 0) rfl) (pgI W.g_LAST_OF_TAIL) (nomark _)) (pss_one (ps_ret (pe_meth0 (pv 0) W.cl W.d_end_frame.m (ok_end_frame W) (hr.mono (by decide)) W.d_end_frame.b .nil pass0))) pss_nil)
      (pss_cons (ps_fldaug (pv 0) pe_int in_add)
      (pss_one (ps_ret (pgI W.g_DONE)))))), ?_⟩
    have hT := wf.ph
    rw [hp] at hT
    have hT : TailOk n seen := hT
    have h15 : 15 ≤ seen.length := by
      have := hT.len
      omega
    obtain ⟨dx, m, X⟩ := na
    have ph := X.ph
    have hst := X.st
    rw [hp] at ph hst
    obtain ⟨hx, l, lo, run, e1, hxA, hlA, ha, eS, et⟩ := ph
    have hse : m.se ≤ 255 := by
      rw [X.b.se]
      exact wf.sent_off (by rw [hp]; intro q; cases q)
    rw [hears_tail b hp] at k
    refine ⟨_, rfl, x, dx, _, rfl, X.o, rfl, _, rfl, x, A, s, n, seen, b, rfl, ⟨dx, m, X⟩, hp, h15, _, rfl, ?_⟩
    refine ifB (!fits n s.sending.isSome (Ql84.good seen) b) rfl (fun c => ?_) (fun c => ?_)
    · have c : fits n s.sending.isSome (Ql84.good seen) b = false := by
        cases z : fits n s.sending.isSome (Ql84.good seen) b with
        | false => rfl
        | true => rw [z] at c; cases c
      rw [if_pos c] at k
      obtain ⟨f1, f2, f3, f4⟩ := fail_is W.HC X.b eS
      refine ⟨_, rfl, x, dx, _, rfl, X.o, rfl, x, dx, m, rfl, X.o, hse, ?_⟩
      rw [f4]
      exact k _ A ⟨dx, _, X.own f1 f2 f3⟩ Stepd.upd
    · have c : ¬ fits n s.sending.isSome (Ql84.good seen) b = false := by
        intro z
        rw [z] at c
        cases c
      rw [if_neg c] at k
      by_cases d : n = 9
      · rw [if_pos d] at k
        refine st_seq (st_yes (ans_eq (val_fld (val_var rfl) X.o W.cl W.n_tail_at rfl) val_c rfl (dst (c := 9) (et.trans d) rfl)) ?_)
        exact ⟨_, rfl, x, dx, _, rfl, X.o, rfl, x, A, s, n, seen, rfl, ⟨dx, m, X⟩, hp, hT.len, hT.few, k⟩
      · rw [if_neg d] at k
        refine st_seq (st_no (ans_eq (val_fld (val_var rfl) X.o W.cl W.n_tail_at rfl) val_c rfl (dst (c := 9) et (decide_eq_false d))) ?_)
        refine st_seq (st_aug (K := K) (a := x) (C := W.C) (dx := dx) (fs := m.fs) (z := .int ((m.tat + 1 : Nat) : Int)) (val_var rfl) X.o W.cl W.n_tail_at rfl val_c (fun Q q => ⟨_, _, rfl, rfl, q⟩) (by show 11 < 1000; decide) ?_)
        refine k _ A ⟨dx, { m with tat := m.tat + 1 }, X.own (m' := { m with tat := m.tat + 1 }) ⟨X.b.se, X.b.he, X.b.want, X.b.got⟩ hst ?_⟩ Stepd.upd
        exact ⟨hx, l, lo, run, e1, hxA, hlA, ha, eS, by show m.tat + 1 = n + 1; rw [et]⟩
/-! ### hear_idle -/
theorem ok_hear_idle (W : Env K mg) : FnOk P w K mg base CX0 5 W.f_hear_idle W.fd_hear_idle ["self", "bit"] (spHearP W.C W.HC fun p => p = .idle) := by
  refine W.d_hear_idle.F.ok sc_hear_idle (fun vs H Q E h => ?_) (fun cdv A outer s H vs Q E hr h => ?_)
  · obtain ⟨_, _, _, _, rfl, _⟩ := h
    rfl
  · obtain ⟨x, A, s, b, rfl, na, wf, hp, k⟩ := h
    refine ⟨_, (pss_cons (ps_if (pt_cmpR op_eq (pv 1) pe_int (nomark _)) (pss_cons (ps_fld (pv 0) (pgI W.g_IN_FRAME) rfl)
      (pss_cons (ps_fld (pv 0) (pe_cmpR op_notN (pe_fld (pv 0) rfl) pe_non (nomark _)) rfl)
      (pss_cons (ps_fld (pv 0) (pe_make0 W.makesH (ok_hinit W) (hr.mono (by decide)) rfl W.mgHC W.d_hinit.b .nil pass0) rfl)
      (pss_cons (ps_expr (pe_meth (pe_fld (pv 0) rfl) W.clH W.d_take.m (ok_take W) (hr.mono (by decide)) W.d_take.b .nil pass0 (pa_cons (pv 1) pa_nil)))
      (pss_one (ps_fld (pv 0) pe_int rfl)))))) pss_nil)
      (pss_one (ps_ret (pgI W.g_DONE)))), ?_⟩
    cases b with
    | true =>
      rw [hears_idle1 hp] at k
      refine st_seq (st_no (ans_eq (val_var rfl) val_c rfl rfl) ?_)
      exact k H A na (Stepd.refl H x A)
    | false =>
      rw [hears_idle0 hp] at k
      obtain ⟨dx, m, X⟩ := na
      have ne : ∀ b, b ∈ A → b ≠ x := fun b hb e => X.xA (e ▸ hb)
      refine st_seq (st_yes (ans_eq (val_var rfl) val_c rfl rfl) ?_)
      -- self.state = IN_FRAME; self.is_sender = self.wanted is not None
      obtain ⟨iS, eiS⟩ : ∃ iS : Bool, iS = !decide (m.wanted = .non) := ⟨_, rfl⟩
      refine st_seq (st_nf ({ m with state := 1 } : NM).fs val_c rfl X.o W.cl W.n_state (fs_len m) rfl ?_)
      dsimp only
      refine st_seq (st_fld (K := K) (a := x) (C := W.C) (dx := dx) (fs := ({ m with state := 1 } : NM).fs) (y := .bl iS) ?_ (val_var rfl) upd_same W.cl W.n_is_sender (fs_len _) ?_)
      · intro R r
        refine ⟨_, rfl, x, W.C, dx, _, _, rfl, upd_same, W.cl, W.n_wanted, rfl, rfl, ?_⟩
        rw [eiS] at r
        exact r
      have ep : putF "is_sender" (.bl iS) ({ m with state := 1 } : NM).fs = ({ m with state := 1, isS := iS } : NM).fs := rfl
      rw [upd_upd, ep]
      obtain ⟨m1, em1⟩ : ∃ m1 : NM, m1 = { m with state := 1, isS := iS } := ⟨_, rfl⟩
      rw [← em1]
      have hx1 : upd H x (.ins W.C dx m1.fs) x = some (.ins W.C dx m1.fs) := upd_same
      -- self.heard = HeardFrame()
      intro hx dh nhx ndh nedh
      refine ⟨hx, dh, rfl, upd_same, fun H2 l nl ha2 kp2 => ⟨rfl, ?_⟩⟩
      have hxx : hx ≠ x := by
        intro e
        rw [e, hx1] at nhx
        cases nhx
      have dhx : dh ≠ x := by
        intro e
        rw [e, hx1] at ndh
        cases ndh
      have s12 : Same (upd H x (.ins W.C dx m1.fs)) H2 := Same.made nhx ndh kp2
      have nhxH : H hx = none := by
        rw [upd_ne hxx] at nhx
        exact nhx
      have lx : l ≠ x := by
        intro e
        rw [e, upd_ne (Ne.symm hxx), upd_ne (Ne.symm dhx), hx1] at nl
        cases nl
      have lhx : l ≠ hx := ha2.ne
      have nlH : H l = none := by
        cases e : H l with
        | none => rfl
        | some o =>
          have e1 : upd H x (.ins W.C dx m1.fs) l = some o := by rw [upd_ne lx]; exact e
          have ldh : l ≠ dh := by
            intro q
            rw [q, ndh] at e1
            cases e1
          rw [upd_ne lhx, upd_ne ldh, e1] at nl
          cases nl
      have hx2 : H2 x = some (.ins W.C dx m1.fs) := s12 _ _ hx1
      refine ⟨_, rfl, x, W.C, dx, _, rfl, hx2, W.cl, W.n_heard, (by show 11 < 1000; decide), ?_⟩
      -- self.heard.take(bit)
      have ha3 : HAt W.HC (upd H2 x (.ins W.C dx ({ m1 with heard := .ref hx } : NM).fs)) hx l HM.new := ha2.keep fun b o q e => by
        rw [upd_ne (by rcases q with q | q <;> subst q <;> assumption)]
        exact e
      obtain ⟨d3, h3⟩ := ha3.o
      refine ⟨_, rfl, x, W.C, dx, _, _, rfl, upd_same, W.cl, W.n_heard, rfl, hx, d3, _, rfl, h3, rfl, _, rfl, hx, l, HM.new, false, rfl, ha3, by decide, fun H4 ha4 kp4 => ?_⟩
      have hx4 : H4 x = some (.ins W.C dx ({ m1 with heard := .ref hx } : NM).fs) := kp4 x _ upd_same (Ne.symm hxx) (Ne.symm lx)
      refine ⟨_, rfl, x, W.C, dx, _, rfl, hx4, W.cl, W.n_frame_at, (by show 11 < 1000; decide), ?_⟩
      show Q (.int 0) (upd H4 x (.ins W.C dx ({ m1 with heard := .ref hx, fat := 1 } : NM).fs))
      have hxA : hx ∉ A := by
        intro e
        obtain ⟨u, hu⟩ := X.alive hx e
        rw [hu] at nhxH
        cases nhxH
      have lA : l ∉ A := by
        intro e
        obtain ⟨u, hu⟩ := X.alive l e
        rw [hu] at nlH
        cases nlH
      have kpx : ∀ b u, H b = some u → b ≠ x → H4 b = some u := fun b u e n1 => by
        have b1 : b ≠ hx := by
          intro q
          rw [q, nhxH] at e
          cases e
        have b2 : b ≠ l := by
          intro q
          rw [q, nlH] at e
          cases e
        refine kp4 b u ?_ b1 b2
        rw [upd_ne n1]
        refine s12 b u ?_
        rw [upd_ne n1]
        exact e
      have kp : ∀ b u, b ∈ A → H b = some u → upd H4 x (.ins W.C dx ({ m1 with heard := .ref hx, fat := 1 } : NM).fs) b = some u := fun b u hb e => by
        rw [upd_ne (ne b hb)]
        exact kpx b u e (ne b hb)
      have sub : ∀ b ∈ A, b ∈ hx :: l :: A := fun b hb => List.mem_cons_of_mem _ (List.mem_cons_of_mem _ hb)
      have hw := X.b.want.isN
      have ew : (wantL s).isNone = s.want.isNone := by
        unfold wantL
        cases s.want <;> rfl
      rw [ew] at hw
      have ha5 : HAt W.HC (upd H4 x (.ins W.C dx ({ m1 with heard := .ref hx, fat := 1 } : NM).fs)) hx l (HM.new.take false).1 := ha4.keep fun b o q e => by
        rw [upd_ne (by rcases q with q | q <;> subst q <;> assumption)]
        exact e
      refine k _ (hx :: l :: A) ⟨dx, { m1 with heard := .ref hx, fat := 1 }, upd_same, ?_, ?_, ⟨?_, ?_, ?_, ?_⟩, ?_, ?_⟩ ⟨sub, fun b hb => ?_, fun b o e n1 _ => ?_⟩
      · intro e
        rcases List.mem_cons.mp e with e | e
        · exact hxx e.symm
        · rcases List.mem_cons.mp e with e | e
          · exact lx e.symm
          · exact X.xA e
      · intro b hb
        rcases List.mem_cons.mp hb with e | e
        · obtain ⟨d5, h5⟩ := ha5.o
          exact ⟨_, by rw [e]; exact h5⟩
        · rcases List.mem_cons.mp e with e | e
          · exact ⟨_, by rw [e]; exact ha5.l⟩
          · obtain ⟨u, hu⟩ := X.alive b e
            exact ⟨u, kp b u e hu⟩
      · rw [em1]
        exact X.b.se
      · rw [em1]
        exact X.b.he
      · rw [em1] at kp ⊢
        exact X.b.want.keep sub fun b u hb _ e => kp b u hb e
      · rw [em1] at kp ⊢
        exact X.b.got.keep sub fun b u hb _ e => kp b u hb e
      · rw [em1]
        rfl
      · refine ⟨hx, l, rfl, List.mem_cons_self .., List.mem_cons_of_mem _ (List.mem_cons_self ..), ha5, ?_, ?_, ?_, ?_⟩
        · rw [em1]
          show iS = (s.want.map _).isSome
          rw [eiS, hw]
          cases s.want <;> rfl
        · intro todo e
          have e : (s.want.map fun (f : Ql84.Frame) => (wire f).drop 1) = some todo := e
          cases q : s.want with
          | none =>
            rw [q] at e
            cases e
          | some f =>
            rw [q] at e
            exact ⟨f, rfl, (Option.some.inj e).symm⟩
        · rw [em1]
          intro e
          have e : m.wanted = .ref l := e
          have hW := X.b.want
          cases q : wantL s with
          | none =>
            rw [q, e] at hW
            cases hW
          | some xs =>
            rw [q, e] at hW
            obtain ⟨a, ea, haA, _⟩ := hW
            injection ea with ea
            exact lA (ea ▸ haA)
        · rw [em1]
          intro e
          have e : m.got = .ref l := e
          have hG := X.b.got
          cases q : gotL s with
          | none =>
            rw [q, e] at hG
            cases hG
          | some xs =>
            rw [q, e] at hG
            obtain ⟨a, ea, haA, _⟩ := hG
            injection ea with ea
            exact lA (ea ▸ haA)
      · rcases List.mem_cons.mp hb with e | e
        · exact .inr (e ▸ nhxH)
        · rcases List.mem_cons.mp e with e | e
          · exact .inr (e ▸ nlH)
          · exact .inl e
      · rw [upd_ne n1]
        exact kpx b o e n1
end
end Cw

namespace Cw
open PySem PySem.Spec PyProof.Rows L2
open Ql84 (Bits numberOf sum wire)
/-! ### within a frame -/
theorem hears_body_none {s : Ql84.St} {seen : Bits} {last : Bool} {run : Nat} (b : Bool) (hp : s.phase = .body seen last run) (es : s.sending = none) : s.hears b = s.read seen last run b := by
  unfold Ql84.St.hears
  rw [hp, es]
theorem hears_body_some {s : Ql84.St} {seen : Bits} {last : Bool} {run : Nat} (b : Bool) {t : Bool} {r : Bits} (hp : s.phase = .body seen last run) (es : s.sending = some (t :: r)) : s.hears b = if b = t then ({ s with sending := some r } : Ql84.St).read seen last run b
      else if b = false ∧ seen.length < 12 then ((({ s with sending := none } : Ql84.St).read seen last run b).1, if (({ s with sending := none } : Ql84.St).read seen last run b).2 = 0 then 4 else (({ s with sending := none } : Ql84.St).read seen last run b).2)
      else s.error := by
  unfold Ql84.St.hears
  rw [hp, es]
theorem pair_zero (r : Ql84.St × Nat) : r = (r.1, if r.2 = 0 then 0 else r.2) := by
  obtain ⟨a, n⟩ := r
  by_cases c : n = 0
  · subst c
    rfl
  · show (a, n) = (a, if n = 0 then 0 else n)
    rw [if_neg c]
theorem upd_self {H : Hp} {x : Addr} {o : HO} (h : H x = some o) : upd H x o = H := by
  funext b
  by_cases c : b = x
  · subst c
    rw [upd_same, h]
  · rw [upd_ne c]
theorem LstR.keepL {H H' : Hp} {v : V} {A : List Addr} {o : Option (List V)} (h : LstR H v A o) (k : ∀ b xs, b ∈ A → v = .ref b → H b = some (.lst xs) → H' b = some (.lst xs)) : LstR H' v A o := by
  cases o with
  | none => exact h
  | some xs =>
    obtain ⟨a, e, ha, hH⟩ := h
    exact ⟨a, e, ha, k a _ ha e hH⟩
theorem failed_own (m : NM) : m.failed.wanted = m.wanted ∧ m.failed.got = m.got := by
  unfold NM.failed
  split
  · split <;> exact ⟨rfl, rfl⟩
  · exact ⟨rfl, rfl⟩
theorem take_last {m : HM} {b : Bool} (h : (m.take b).2 = true) : (m.take b).1.last = some b := by
  unfold HM.take at h ⊢
  by_cases c : m.run = 5
  · rw [if_pos c] at h ⊢
    by_cases d : m.last = some b
    · rw [if_pos d] at h
      cases h
    · rw [if_neg d]
  · rw [if_neg c]
theorem mid_done {C HC : Addr} {H H4 : Hp} {x hx l dx : Addr} {A : List Addr} {m m' : NM} {s s' : Ql84.St} {h0 h4 : HM} (X : NX C HC H x A dx m s) (ha : HAt HC H hx l h0) (ha4 : HAt HC H4 hx l h4) (hxA : hx ∈ A) (lA : l ∈ A)
    (kp : ∀ c u, H c = some u → c ≠ x → c ≠ hx → c ≠ l → H4 c = some u) (hb : NB H m' A s') (nw : m'.wanted ≠ .ref l) (ng : m'.got ≠ .ref l) (st : m'.state = s'.phase.number) (ph : ∀ H', HAt HC H' hx l h4 → PhR HC H' m' A s' s'.phase) :
    NA C HC (upd H4 x (.ins C dx m'.fs)) x A s' ∧ Stepd H (upd H4 x (.ins C dx m'.fs)) x A A := by
  have ne : ∀ b, b ∈ A → b ≠ x := fun b hb e => X.xA (e ▸ hb)
  have ha5 : HAt HC (upd H4 x (.ins C dx m'.fs)) hx l h4 := ha4.keep fun b o q e => by
    have bx : b ≠ x := by
      rcases q with q | q
      · exact q ▸ ne _ hxA
      · exact q ▸ ne _ lA
    rw [upd_ne bx]
    exact e
  have kl : ∀ b xs, b ∈ A → b ≠ l → H b = some (.lst xs) → upd H4 x (.ins C dx m'.fs) b = some (.lst xs) := fun b xs hb nl e => by
    have bh : b ≠ hx := by
      intro q
      obtain ⟨d, hd⟩ := ha.o
      rw [q, hd] at e
      cases e
    rw [upd_ne (ne b hb)]
    exact kp b _ e (ne b hb) bh nl
  refine ⟨⟨dx, m', upd_same, X.xA, fun b hb => ?_, ⟨hb.se, hb.he, hb.want.keepL fun b xs hb q e => kl b xs hb (fun z => nw (z ▸ q)) e, hb.got.keepL fun b xs hb q e => kl b xs hb (fun z => ng (z ▸ q)) e⟩, st, ph _ ha5⟩, fun _ q => q, fun _ q => .inl q, fun b o e n1 n2 => ?_⟩
  · by_cases c : b = hx
    · obtain ⟨d, hd⟩ := ha5.o
      exact ⟨_, by rw [c]; exact hd⟩
    · by_cases d : b = l
      · exact ⟨_, by rw [d]; exact ha5.l⟩
      · obtain ⟨u, hu⟩ := X.alive b hb
        exact ⟨u, by rw [upd_ne (ne b hb)]; exact kp b u hu (ne b hb) c d⟩
  · rw [upd_ne n1]
    exact kp b o e n1 (fun q => n2 (q ▸ hxA)) (fun q => n2 (q ▸ lA))
section
variable {P : Program} {w : World} {K : PySem.W.Frag} {mg : Str → Option Value} {base : Heap}
theorem ok_hear_in_frame (W : Env K mg) : FnOk P w K mg base CX0 5 W.f_hear_in_frame W.fd_hear_in_frame ["self", "bit"] (spHearP W.C W.HC fun p => ∃ seen last run, p = .body seen last run) := by
  refine W.d_hear_in_frame.F.ok sc_hear_in_frame (fun vs H Q E h => ?_) (fun cdv A outer s H vs Q E hr h => ?_)
  · obtain ⟨_, _, _, _, rfl, _⟩ := h
    rfl
  · obtain ⟨x, A, s, b, rfl, na, wf, ⟨seen, last, run, hp⟩, k⟩ := h
    refine ⟨_, (pss_cons (ps_set (i := 2) sc_hear_in_frame.nd rfl (Or.inl rfl) (pgI W.g_DONE))
      (pss_cons (ps_if (PW.pt (pw_and (pt_val (pe_fld (pv 0) rfl)) (pw_and1 (pt_cmpR op_ne (pv 1) (pe_meth0 (pv 0) W.cl W.d_out.m (ok_out W) (hr.mono (by decide)) W.d_out.b .nil pass0) (nomark _))))) (pss_cons (ps_if (PW.pt (pw_or (pt_cmpR op_eq (pv 1) pe_int (nomark _)) (pw_or1 (pt_val (pe_meth0 (pe_fld (pv 0) rfl) W.clH W.d_is_ranked.m (ok_is_ranked W) (hr.mono (by decide)) W.d_is_ranked.b .nil pass0))))) (pss_one (ps_ret (pe_meth0 (pv 0) W.cl W.d_fail.m (ok_fail W) (hr.mono (by decide)) W.d_fail.b .nil pass0))) pss_nil)
      (pss_cons (ps_fld (pv 0) pe_bl rfl)
      (pss_one (ps_set (i := 2) sc_hear_in_frame.nd rfl (Or.inl rfl) (pgI W.g_ANOTHER_WINS))))) pss_nil)
      (pss_cons (ps_fldaug (pv 0) pe_int in_add)
      (pss_cons (ps_if (pt_not (pt_val (pe_meth (pe_fld (pv 0) rfl) W.clH W.d_take.m (ok_take W) (hr.mono (by decide)) W.d_take.b .nil pass0 (pa_cons (pv 1) pa_nil)))) (pss_one (ps_ret (pe_meth0 (pv 0) W.cl W.d_fail.m (ok_fail W) (hr.mono (by decide)) W.d_fail.b .nil pass0))) pss_nil)
      (pss_cons (ps_if (pt_val (pe_meth0 (pe_fld (pv 0) rfl) W.clH W.d_is_whole.m (ok_is_whole W) (hr.mono (by decide)) W.d_is_whole.b .nil pass0)) (pss_cons (ps_fld (pv 0) (pgI W.g_IN_TAIL) rfl)
      (pss_one (ps_fld (pv 0) pe_int rfl))) pss_nil)
      (pss_one (ps_ret (pv 2)))))))), ?_⟩
    obtain ⟨dx, m, X⟩ := na
    have ph := X.ph
    have hst := X.st
    rw [hp] at ph hst
    have hst : m.state = 1 := hst
    obtain ⟨hx, l, e1, hxA, lA, ha, eS, etodo, nw, ng⟩ := ph
    have bok : BodyOk seen run := by
      have := wf.ph
      rw [hp] at this
      exact this
    have ne : ∀ b, b ∈ A → b ≠ x := fun b hb e => X.xA (e ▸ hb)
    have hsent : s.sent ≤ 255 := wf.sent_off (by rw [hp]; intro q; cases q)
    have hlen : seen.length ≤ 1000 := by
      by_cases c : 19 ≤ seen.length
      · have h1 := bok.most c
        have h2 := odd_few bok.odd c
        omega
      · omega
    obtain ⟨dh, hh⟩ := ha.o
    -- answer = DONE
    refine st_seq (st_set (v := V.int 0) val_c ?_)
    dsimp only
    refine st_cut (fun σ' H1 => ∃ (a : Nat) (s1 : Ql84.St) (m1 : NM), σ' = [some (.ref x), some (bv b), some (.int (a : Int))] ∧ H1 = upd H x (.ins W.C dx m1.fs) ∧ NB H m1 A s1 ∧ s1.sent ≤ 255 ∧ m1.state = 1 ∧ m1.heard = .ref hx ∧ m1.isS = s1.sending.isSome ∧
      (∀ todo, s1.sending = some todo → ∃ f, s1.want = some f ∧ todo = (wire f).drop (m1.fat + 1)) ∧ m1.wanted ≠ .ref l ∧ m1.got ≠ .ref l ∧ s.hears b = ((s1.read seen last run b).1, if (s1.read seen last run b).2 = 0 then a else (s1.read seen last run b).2)) ?_ ?_
    · intro N hN
      cases es : s.sending with
      | none =>
        rw [es] at eS
        refine st_no (ans_and0 (ans_val (val_fld (val_var rfl) X.o W.cl W.n_is_sender (by rw [show false = m.isS from eS.symm]; rfl)))) ?_
        refine hN _ _ ⟨0, s, m, rfl, (upd_self X.o).symm, X.b, hsent, hst, e1, by rw [es]; exact eS, fun todo q => (by rw [es] at q; cases q), nw, ng, ?_⟩
        rw [hears_body_none b hp es]
        exact pair_zero _
      | some todo =>
        rw [es] at eS
        have eS : m.isS = true := eS
        obtain ⟨f, ef, et⟩ := etodo todo es
        obtain ⟨g, eg, okg, ho⟩ := wf.send todo es
        obtain ⟨t, r, etr⟩ : ∃ t r, todo = t :: r := by
          rcases ho with ho | ⟨n, hn, _⟩
          · exact own_body ho hp
          · rw [hp] at hn
            cases hn
        subst etr
        have eout : s.out = t := by
          unfold Ql84.St.out
          rw [hp, es]
        have er : r = (wire f).drop (m.fat + 1) := by
          rw [← List.drop_drop, ← et]
          rfl
        have hB := hears_body_some b hp es
        by_cases c : b = t
        · rw [if_pos c] at hB
          refine st_no (ans_and (b := false) (ans_val (val_fld (val_var rfl) X.o W.cl W.n_is_sender (by rw [show true = m.isS from eS.symm]; rfl))) ?_) ?_
          · intro R q
            refine ⟨_, rfl, _, rfl, x, dx, _, rfl, X.o, rfl, x, A, s, rfl, ⟨dx, m, X⟩, wf, rfl, _, ?_, q⟩
            rw [eout, bv_eq, decide_eq_true c]
            rfl
          · refine hN _ _ ⟨0, { s with sending := some r }, m, rfl, (upd_self X.o).symm, ⟨X.b.se, X.b.he, X.b.want, X.b.got⟩, hsent, hst, e1, eS, fun todo q => ⟨f, ef, ?_⟩, nw, ng, ?_⟩
            · have q : some r = some todo := q
              rw [← Option.some.inj q]
              exact er
            · rw [hB]
              exact pair_zero _
        · rw [if_neg c] at hB
          refine st_yes (ans_and (b := true) (ans_val (val_fld (val_var rfl) X.o W.cl W.n_is_sender (by rw [show true = m.isS from eS.symm]; rfl))) ?_) ?_
          · intro R q
            refine ⟨_, rfl, _, rfl, x, dx, _, rfl, X.o, rfl, x, A, s, rfl, ⟨dx, m, X⟩, wf, rfl, _, ?_, q⟩
            rw [eout, bv_eq, decide_eq_false c]
            rfl
          · have ranked : ∀ R : Bool → Hp → Prop, R (decide (12 ≤ seen.length)) H → tB (tMeth W.HC "is_ranked" (spIsRanked W.HC) [] E0 (tFld K (tVar 0) "heard") tNil) [some (.ref x), some (bv b), some (.int 0)] H R := by
              intro R q
              refine ⟨_, rfl, x, W.C, dx, _, _, rfl, X.o, W.cl, W.n_heard, rfl, hx, dh, _, e1, hh, rfl, hx, l, _, ?_, ha, _, rfl, q⟩
              rw [e1]
              rfl
            have failing : s.hears b = s.error → tRet (tMeth W.C "fail" (spFail W.C) [] E0 (tVar 0) tNil) { nx := N, rt := Q } [some (.ref x), some (bv b), some (.int 0)] H := by
              intro eB
              rw [eB] at k
              have eS' : m.isS = s.sending.isSome := by rw [es]; exact eS
              obtain ⟨f1, f2, f3, f4⟩ := fail_is W.HC X.b eS'
              refine ⟨_, rfl, x, dx, _, rfl, X.o, rfl, x, dx, m, rfl, X.o, by rw [X.b.se]; exact hsent, ?_⟩
              rw [f4]
              exact k _ A ⟨dx, _, X.own f1 f2 f3⟩ Stepd.upd
            by_cases d : b = true
            · refine st_seq (st_yes (ans_or1 (ans_eq (val_var rfl) val_c (bv_scal b 1) (by rw [d]; rfl))) ?_)
              refine failing ?_
              rw [hB, if_neg (by rw [d]; intro z; cases z.1)]
            · have d' : b = false := by simpa using d
              by_cases e : 12 ≤ seen.length
              · refine st_seq (st_yes (ans_or (b := true) (ans_eq (val_var rfl) val_c (bv_scal b 1) (by rw [d']; rfl)) ?_) ?_)
                · intro R q
                  refine ranked R ?_
                  rw [decide_eq_true e]
                  exact q
                · refine failing ?_
                  rw [hB, if_neg (by omega)]
              · refine st_seq (st_no (ans_or (b := false) (ans_eq (val_var rfl) val_c (bv_scal b 1) (by rw [d']; rfl)) ?_) ?_)
                · intro R q
                  refine ranked R ?_
                  rw [decide_eq_false e]
                  exact q
                · refine ⟨_, rfl, x, W.C, dx, _, rfl, X.o, W.cl, W.n_is_sender, (by show 11 < 1000; decide), ?_⟩
                  refine hN _ _ ⟨4, { s with sending := none }, { m with isS := false }, rfl, rfl, ⟨X.b.se, X.b.he, X.b.want, X.b.got⟩, hsent, hst, e1, rfl, fun todo q => (by cases q), nw, ng, ?_⟩
                  rw [hB, if_pos ⟨d', by omega⟩]
    · rintro σ' H1 ⟨a, s1, m1, rfl, rfl, hb, hs1, hst1, hh1, hS1, htodo, nw1, ng1, hears⟩
      rw [hears, take_read (s := s1) bok (m := ⟨seen, some last, run⟩) rfl] at k
      obtain ⟨h0, eh0⟩ : ∃ h0 : HM, h0 = ⟨seen, some last, run⟩ := ⟨_, rfl⟩
      rw [← eh0] at k ha
      have hl0 : h0.seen.length ≤ 1000 := by rw [eh0]; exact hlen
      -- self.frame_at += 1
      refine st_seq (st_aug (K := K) (a := x) (C := W.C) (dx := dx) (fs := m1.fs) (z := .int ((m1.fat + 1 : Nat) : Int)) (val_var rfl) upd_same W.cl W.n_frame_at rfl val_c (fun Q q => ⟨_, _, rfl, rfl, q⟩) (by show 11 < 1000; decide) ?_)
      have ep : putF "frame_at" (.int ((m1.fat + 1 : Nat) : Int)) m1.fs = ({ m1 with fat := m1.fat + 1 } : NM).fs := rfl
      rw [upd_upd, ep]
      obtain ⟨m2, em2⟩ : ∃ m2 : NM, m2 = { m1 with fat := m1.fat + 1 } := ⟨_, rfl⟩
      rw [← em2]
      have hb2 : NB H m2 A s1 := by
        rw [em2]
        exact ⟨hb.se, hb.he, hb.want, hb.got⟩
      have hh2 : m2.heard = .ref hx := by rw [em2]; exact hh1
      have hS2 : m2.isS = s1.sending.isSome := by rw [em2]; exact hS1
      have nw2 : m2.wanted ≠ .ref l := by rw [em2]; exact nw1
      have ng2 : m2.got ≠ .ref l := by rw [em2]; exact ng1
      have hst2 : m2.state = 1 := by rw [em2]; exact hst1
      have htodo2 : ∀ todo, s1.sending = some todo → ∃ f, s1.want = some f ∧ todo = (wire f).drop m2.fat := by rw [em2]; exact htodo
      have hx2 : upd H x (.ins W.C dx m2.fs) x = some (.ins W.C dx m2.fs) := upd_same
      have ha2 : HAt W.HC (upd H x (.ins W.C dx m2.fs)) hx l h0 := ha.keep fun b o q e => by
        have bx : b ≠ x := by
          rcases q with q | q
          · exact q ▸ ne _ hxA
          · exact q ▸ ne _ lA
        rw [upd_ne bx]
        exact e
      obtain ⟨d2, hd2⟩ := ha2.o
      -- if not self.heard.take(bit)
      refine ⟨_, rfl, x, W.C, dx, _, _, rfl, hx2, W.cl, W.n_heard, rfl, hx, d2, _, hh2, hd2, rfl, _, rfl, hx, l, h0, b, ?_, ha2, hl0, fun H3 ha3 kp3 => ?_⟩
      · rw [hh2]
        rfl
      have hx3 : H3 x = some (.ins W.C dx m2.fs) := kp3 x _ hx2 (Ne.symm (ne _ hxA)) (Ne.symm (ne _ lA))
      have kpH : ∀ c u, H c = some u → c ≠ x → c ≠ hx → c ≠ l → H3 c = some u := fun c u e n1 n2 n3 => by
        refine kp3 c u ?_ n2 n3
        rw [upd_ne n1]
        exact e
      refine ⟨_, rfl, ?_⟩
      refine ifB (!(h0.take b).2) rfl (fun c => ?_) (fun c => ?_)
      · have c : (h0.take b).2 = false := by
          cases z : (h0.take b).2 with
          | false => rfl
          | true => rw [z] at c; cases c
        rw [if_pos c] at k
        dsimp only at k
        rw [if_neg (error_ne s1)] at k
        obtain ⟨f1, f2, f3, f4⟩ := fail_is W.HC hb2 hS2
        have fo := failed_own m2
        refine ⟨_, rfl, x, dx, _, rfl, hx3, rfl, x, dx, m2, rfl, hx3, by rw [hb2.se]; exact hs1, ?_⟩
        rw [f4]
        have md := mid_done X ha ha3 hxA lA kpH f1 (by rw [fo.1]; exact nw2) (by rw [fo.2]; exact ng2) f2 (fun H' _ => by
          unfold NM.failed Ql84.St.error
          rw [← hS2]
          by_cases z : m2.isS = true
          · rw [if_pos z, if_pos z, ← hb2.se]
            by_cases y : 256 ≤ m2.se + 8
            · rw [if_pos y, if_pos y]
              exact trivial
            · rw [if_neg y, if_neg y]
              exact rfl
          · rw [if_neg z, if_neg z]
            exact rfl)
        exact k _ A md.1 md.2
      · have c : (h0.take b).2 = true := by
          cases z : (h0.take b).2 with
          | true => rfl
          | false => rw [z] at c; cases c
        rw [if_neg (show ¬ (h0.take b).2 = false by rw [c]; decide)] at k
        obtain ⟨h1, eh1⟩ : ∃ h1 : HM, h1 = (h0.take b).1 := ⟨_, rfl⟩
        have hlast : h1.last = some b := by rw [eh1]; exact take_last c
        rw [← eh1] at k ha3
        obtain ⟨d3, hd3⟩ := ha3.o
        -- if self.heard.is_whole()
        refine ⟨_, rfl, x, W.C, dx, _, _, rfl, hx3, W.cl, W.n_heard, rfl, hx, d3, _, hh2, hd3, rfl, hx, l, h1, ?_, ha3, fun H4 s4 => ?_⟩
        · rw [hh2]
          rfl
        have ha4 := ha3.same s4
        have hx4 : H4 x = some (.ins W.C dx m2.fs) := s4 _ _ hx3
        have kp4 : ∀ c u, H c = some u → c ≠ x → c ≠ hx → c ≠ l → H4 c = some u := fun c u e n1 n2 n3 => s4 c u (kpH c u e n1 n2 n3)
        refine ⟨_, rfl, ?_⟩
        refine ifB h1.whole rfl (fun d => ?_) (fun d => ?_)
        · rw [if_pos d] at k
          dsimp only at k
          rw [if_pos rfl] at k
          refine ⟨_, rfl, x, W.C, dx, _, rfl, hx4, W.cl, W.n_state, (by show 11 < 1000; decide), ?_⟩
          refine ⟨_, rfl, x, W.C, dx, _, rfl, upd_same, W.cl, W.n_tail_at, (by show 11 < 1000; decide), ?_⟩
          refine ⟨_, rfl, ?_⟩
          show Q (.int (a : Int)) (upd (upd H4 x _) x (.ins W.C dx ({ m2 with state := 2, tat := 0 } : NM).fs))
          rw [upd_upd]
          have md := mid_done (m' := { m2 with state := 2, tat := 0 }) (s' := { s1 with phase := .tail 0 h1.seen }) X ha ha4 hxA lA kp4 ⟨hb2.se, hb2.he, hb2.want, hb2.got⟩ nw2 ng2 rfl (fun H' hA => ⟨hx, l, h1.last, h1.run, hh2, hxA, lA, hA, hS2, rfl⟩)
          exact k _ A md.1 md.2
        · rw [if_neg (by rw [d]; decide)] at k
          dsimp only at k
          rw [if_pos rfl] at k
          refine ⟨_, rfl, ?_⟩
          have md := mid_done (m' := m2) (s' := { s1 with phase := .body h1.seen b h1.run }) X ha ha4 hxA lA kp4 ⟨hb2.se, hb2.he, hb2.want, hb2.got⟩ nw2 ng2 hst2 (fun H' hA => ⟨hx, l, hh2, hxA, lA, by rw [← hlast]; exact hA, hS2, htodo2, nw2, ng2⟩)
          rw [upd_self hx4] at md
          exact k _ A md.1 md.2
end
end Cw

namespace Cw
open PySem PySem.Spec PyProof.Rows L2
open Ql84 (Bits numberOf sum wire)
/-! ### the calls' own answers -/
def hearA (s : Ql84.St) (z : Int) : Ql84.St × Int := if z = 0 ∨ z = 1 then ((s.hears (z == 1)).1, ((s.hears (z == 1)).2 : Int)) else (s, -2)
theorem hearA_bit (s : Ql84.St) (b : Bool) : hearA s (b.toNat : Int) = ((s.hears b).1, ((s.hears b).2 : Int)) := by
  cases b <;> rfl
theorem step_hearA (s : Ql84.St) (z : Int) : stepS s [[3, z]] = ((hearA s z).1, [(hearA s z).2]) := by
  by_cases c : z = 0 ∨ z = 1
  · rcases c with c | c
    · subst c
      exact step_hear s false
    · subst c
      exact step_hear s true
  · rw [step_hear_no c]
    unfold hearA
    rw [if_neg c]
theorem step_sendA {s : Ql84.St} {id n : Int} {b : List Int} (h : Ql84Neutral.asked1 [[1, id, n], b] = true) : stepS s [[1, id, n], b] = ((sendA s id n b).1, [(sendA s id n b).2]) := by
  unfold sendA
  by_cases c : (0 ≤ id ∧ id ≤ 2047) ∧ n ≤ 8
  · rw [if_pos c, step_send c.1.1 c.1.2 (asked_send h).1 c.2]
    split <;> rfl
  · rw [if_neg c, step_send_no (by omega)]
theorem step_lookA (s : Ql84.St) : stepS s [[4]] = (s, lookA s) := by
  rw [step_look]
  unfold lookA
  cases s.got <;> rfl
theorem step_countA (s : Ql84.St) (z : Int) : stepS s [[5, z]] = (s, [countA s z]) := step_count s z
theorem Stepd.of_same {H H1 H' : Hp} {x : Addr} {A A' : List Addr} (e : Same H H1) (h : Stepd H1 H' x A A') : Stepd H H' x A A' :=
  ⟨h.sub, fun b hb => (h.grown b hb).elim .inl fun q => .inr (e.free q), fun b o q n1 n2 => h.apart b o (e b o q) n1 n2⟩
/-- a new list with the answer is given back -/
theorem fin_list {C HC : Addr} {H H1 : Hp} {x p : Addr} {A A1 : List Addr} {s s1 : Ql84.St} {zs : List Int} {Q : VK} (na : NA C HC H x A s) (na1 : NA C HC H1 x A1 s1) (sd : Stepd H H1 x A A1) (np : H1 p = none)
    (k : ∀ H' A' p, NA C HC H' x A' s1 → Grown H A A' → Apart H H' x A → H p = none → H' p = some (.lst (ivs zs)) → Q (.ref p) H') : Q (.ref p) (upd H1 p (.lst (ivs zs))) :=
  k _ A1 p ((nodes C HC).keep na1 fun b o _ e => upd_old e np) sd.grown (fun b o e n1 n2 => upd_old (sd.apart b o e n1 n2) np) (sd.free na na1 np) upd_same
theorem at_of {ns l t : List Int} {i j : Nat} {z : Int} (h : ns.drop i = l ++ t) (hj : l[j]? = some z) : (ivs ns)[i + j]? = some (.int z) := by
  unfold ivs
  rw [List.getElem?_map, ← List.getElem?_drop, h, List.getElem?_append_left, hj]
  · rfl
  · exact (List.getElem?_eq_some_iff.mp hj).1
section
variable {P : Program} {w : World} {K : PySem.W.Frag} {mg : Str → Option Value} {base : Heap}
def spHear (C HC : Addr) : Sp := fun vs H Q _ => ∃ (x : Addr) (A : List Addr) (s : Ql84.St) (z : Int), vs = [.ref x, .int z] ∧ NA C HC H x A s ∧ Wf s ∧ ∀ H' A', NA C HC H' x A' (hearA s z).1 → Stepd H H' x A A' → Q (.int (hearA s z).2) H'
theorem ok_hear (W : Env K mg) : FnOk P w K mg base CX0 7 W.f_hear W.fd_hear ["self", "bit"] (spHear W.C W.HC) := by
  refine W.d_hear.F.ok sc_hear (fun vs H Q E h => ?_) (fun cdv A outer s H vs Q E hr h => ?_)
  · obtain ⟨_, _, _, _, rfl, _⟩ := h
    rfl
  · obtain ⟨x, A, s, z, rfl, na, wf, k⟩ := h
    refine ⟨_, (pss_cons (ps_if (PW.pt (pw_and (pt_cmpR op_ne (pv 1) pe_int (nomark _)) (pw_and1 (pt_cmpR op_ne (pv 1) pe_int (nomark _))))) (pss_one (ps_ret (pgI W.g_OUT_OF_RANGE))) pss_nil)
      (pss_cons (ps_if (pt_cmpR op_eq (pe_fld (pv 0) rfl) (pgI W.g_IDLE) (nomark _)) (pss_one (ps_ret (pe_meth (pv 0) W.cl W.d_hear_idle.m (ok_hear_idle W) (hr.mono (by decide)) W.d_hear_idle.b .nil pass0 (pa_cons (pv 1) pa_nil)))) pss_nil)
      (pss_cons (ps_if (pt_cmpR op_eq (pe_fld (pv 0) rfl) (pgI W.g_IN_FRAME) (nomark _)) (pss_one (ps_ret (pe_meth (pv 0) W.cl W.d_hear_in_frame.m (ok_hear_in_frame W) (hr.mono (by decide)) W.d_hear_in_frame.b .nil pass0 (pa_cons (pv 1) pa_nil)))) pss_nil)
      (pss_cons (ps_if (pt_cmpR op_eq (pe_fld (pv 0) rfl) (pgI W.g_IN_TAIL) (nomark _)) (pss_one (ps_ret (pe_meth (pv 0) W.cl W.d_hear_in_tail.m (ok_hear_in_tail W) (hr.mono (by decide)) W.d_hear_in_tail.b .nil pass0 (pa_cons (pv 1) pa_nil)))) pss_nil)
      (pss_cons (ps_if (pt_cmpR op_eq (pe_fld (pv 0) rfl) (pgI W.g_TELLING) (nomark _)) (pss_one (ps_ret (pe_meth0 (pv 0) W.cl W.d_hear_telling.m (ok_hear_telling W) (hr.mono (by decide)) W.d_hear_telling.b .nil pass0))) pss_nil)
      (pss_cons (ps_if (pt_cmpR op_eq (pe_fld (pv 0) rfl) (pgI W.g_WAITING) (nomark _)) (pss_one (ps_ret (pe_meth (pv 0) W.cl W.d_hear_waiting.m (ok_hear_waiting W) (hr.mono (by decide)) W.d_hear_waiting.b .nil pass0 (pa_cons (pv 1) pa_nil)))) pss_nil)
      (pss_one (ps_ret (pgI W.g_DONE))))))))), ?_⟩
    by_cases c : z = 0 ∨ z = 1
    · obtain ⟨b, rfl⟩ : ∃ b : Bool, z = (b.toNat : Int) := by
        rcases c with c | c
        · exact ⟨false, c⟩
        · exact ⟨true, c⟩
      rw [hearA_bit] at k
      have bt : Ans (tAnd (tTest (tOp rNe (tVar 1) (tC (.int 0)))) (tTest (tOp rNe (tVar 1) (tC (.int 1))))) [some (.ref x), some (.int (b.toNat : Int))] H false := by
        cases b with
        | false => exact ans_and0 (ans_ne (val_var rfl) val_c rfl rfl)
        | true => exact ans_and (ans_ne (val_var rfl) val_c rfl rfl) (ans_ne (val_var rfl) val_c rfl rfl)
      refine st_seq (st_no bt ?_)
      obtain ⟨dx, m, X⟩ := na
      have hst := X.st
      have na : NA W.C W.HC H x A s := ⟨dx, m, X⟩
      cases hp : s.phase with
      | idle =>
        rw [hp] at hst
        refine st_seq (st_yes (ans_eq (val_fld (val_var rfl) X.o W.cl W.n_state rfl) val_c rfl (dst (c := 0) hst rfl)) ?_)
        exact ⟨_, rfl, x, dx, _, rfl, X.o, rfl, _, rfl, x, A, s, b, rfl, na, wf, hp, k⟩
      | body seen last run =>
        rw [hp] at hst
        refine st_seq (st_no (ans_eq (val_fld (val_var rfl) X.o W.cl W.n_state rfl) val_c rfl (dst (c := 0) hst rfl)) ?_)
        refine st_seq (st_yes (ans_eq (val_fld (val_var rfl) X.o W.cl W.n_state rfl) val_c rfl (dst (c := 1) hst rfl)) ?_)
        exact ⟨_, rfl, x, dx, _, rfl, X.o, rfl, _, rfl, x, A, s, b, rfl, na, wf, ⟨seen, last, run, hp⟩, k⟩
      | tail n seen =>
        rw [hp] at hst
        refine st_seq (st_no (ans_eq (val_fld (val_var rfl) X.o W.cl W.n_state rfl) val_c rfl (dst (c := 0) hst rfl)) ?_)
        refine st_seq (st_no (ans_eq (val_fld (val_var rfl) X.o W.cl W.n_state rfl) val_c rfl (dst (c := 1) hst rfl)) ?_)
        refine st_seq (st_yes (ans_eq (val_fld (val_var rfl) X.o W.cl W.n_state rfl) val_c rfl (dst (c := 2) hst rfl)) ?_)
        exact ⟨_, rfl, x, dx, _, rfl, X.o, rfl, _, rfl, x, A, s, b, rfl, na, wf, ⟨n, seen, hp⟩, k⟩
      | flag n =>
        rw [hp] at hst
        refine st_seq (st_no (ans_eq (val_fld (val_var rfl) X.o W.cl W.n_state rfl) val_c rfl (dst (c := 0) hst rfl)) ?_)
        refine st_seq (st_no (ans_eq (val_fld (val_var rfl) X.o W.cl W.n_state rfl) val_c rfl (dst (c := 1) hst rfl)) ?_)
        refine st_seq (st_no (ans_eq (val_fld (val_var rfl) X.o W.cl W.n_state rfl) val_c rfl (dst (c := 2) hst rfl)) ?_)
        refine st_seq (st_yes (ans_eq (val_fld (val_var rfl) X.o W.cl W.n_state rfl) val_c rfl (dst (c := 3) hst rfl)) ?_)
        exact ⟨_, rfl, x, dx, _, rfl, X.o, rfl, x, A, s, n, b, rfl, na, hp, k⟩
      | rest n =>
        rw [hp] at hst
        refine st_seq (st_no (ans_eq (val_fld (val_var rfl) X.o W.cl W.n_state rfl) val_c rfl (dst (c := 0) hst rfl)) ?_)
        refine st_seq (st_no (ans_eq (val_fld (val_var rfl) X.o W.cl W.n_state rfl) val_c rfl (dst (c := 1) hst rfl)) ?_)
        refine st_seq (st_no (ans_eq (val_fld (val_var rfl) X.o W.cl W.n_state rfl) val_c rfl (dst (c := 2) hst rfl)) ?_)
        refine st_seq (st_no (ans_eq (val_fld (val_var rfl) X.o W.cl W.n_state rfl) val_c rfl (dst (c := 3) hst rfl)) ?_)
        refine st_seq (st_yes (ans_eq (val_fld (val_var rfl) X.o W.cl W.n_state rfl) val_c rfl (dst (c := 4) hst rfl)) ?_)
        exact ⟨_, rfl, x, dx, _, rfl, X.o, rfl, _, rfl, x, A, s, b, rfl, na, wf, ⟨n, hp⟩, k⟩
      | off =>
        rw [hp] at hst
        rw [hears_off b hp] at k
        refine st_seq (st_no (ans_eq (val_fld (val_var rfl) X.o W.cl W.n_state rfl) val_c rfl (dst (c := 0) hst rfl)) ?_)
        refine st_seq (st_no (ans_eq (val_fld (val_var rfl) X.o W.cl W.n_state rfl) val_c rfl (dst (c := 1) hst rfl)) ?_)
        refine st_seq (st_no (ans_eq (val_fld (val_var rfl) X.o W.cl W.n_state rfl) val_c rfl (dst (c := 2) hst rfl)) ?_)
        refine st_seq (st_no (ans_eq (val_fld (val_var rfl) X.o W.cl W.n_state rfl) val_c rfl (dst (c := 3) hst rfl)) ?_)
        refine st_seq (st_no (ans_eq (val_fld (val_var rfl) X.o W.cl W.n_state rfl) val_c rfl (dst (c := 4) hst rfl)) ?_)
        exact k H A na (Stepd.refl H x A)
    · unfold hearA at k
      rw [if_neg c] at k
      refine st_seq (st_yes (ans_and (ans_ne (val_var rfl) val_c rfl ?_) (ans_ne (val_var rfl) val_c rfl ?_)) ?_)
      · rw [int_eq (decide_eq_false (fun q => c (.inl q)))]
        rfl
      · rw [int_eq (decide_eq_false (fun q => c (.inr q)))]
        rfl
      · exact k H A na (Stepd.refl H x A)
/-! ### end_of_call -/
theorem ok_end_of_call (W : Env K mg) : FnOk P w K mg base CX0 1 W.f_end_of_call W.fd_end_of_call ["calls", "start"] (spEndOfCall K) := by
  refine W.d_end_of_call.F.ok sc_end_of_call (fun vs H Q E h => ?_) (fun cdv A outer s H vs Q E hr h => ?_)
  · obtain ⟨_, _, _, _, _, _, rfl, _⟩ := h
    rfl
  · obtain ⟨a, ns, l, t, i, c, rfl, hS, hd, T, k⟩ := h
    refine ⟨_, (pss_cons (ps_if (pt_cmpR op_eq (pe_ix ix_list (pv 0) (pv 1) (fun _ _ => rfl)) (pgI W.g_SEND) (nomark _)) (pss_one (ps_ret (pe_op op_add (pe_op op_add (pv 1) (pgI W.g_SEND_HEAD)) (pe_ix ix_list (pv 0) (pe_op op_sub (pe_op op_add (pv 1) (pgI W.g_SEND_HEAD)) pe_int) (fun _ _ => rfl))))) pss_nil)
      (pss_cons (ps_if (PW.pt (pw_or (pt_cmpR op_eq (pe_ix ix_list (pv 0) (pv 1) (fun _ _ => rfl)) (pgI W.g_HEAR) (nomark _)) (pw_or1 (pt_cmpR op_eq (pe_ix ix_list (pv 0) (pv 1) (fun _ _ => rfl)) (pgI W.g_COUNT) (nomark _))))) (pss_one (ps_ret (pe_op op_add (pv 1) pe_int))) pss_nil)
      (pss_one (ps_ret (pe_op op_add (pv 1) pe_int))))), ?_⟩
    have hv : ∀ z : Int, l[0]? = some z → Val (tOp (rIxL K) (tVar 0) (tVar 1)) [some (.ref a), some (.int (i : Int))] H (.int z) := fun z hz R q =>
      ⟨_, rfl, _, rfl, a, _, _, _, rfl, rfl, hS, atI_nat (at_of hd hz), q⟩
    cases T with
    | begin_ =>
      refine st_seq (st_no (ans_eq (hv 0 rfl) val_c rfl rfl) ?_)
      refine st_seq (st_no (ans_or (ans_eq (hv 0 rfl) val_c rfl rfl) (ans_eq (hv 0 rfl) val_c rfl rfl)) ?_)
      exact ⟨_, rfl, _, _, rfl, rfl, k⟩
    | out =>
      refine st_seq (st_no (ans_eq (hv 2 rfl) val_c rfl rfl) ?_)
      refine st_seq (st_no (ans_or (ans_eq (hv 2 rfl) val_c rfl rfl) (ans_eq (hv 2 rfl) val_c rfl rfl)) ?_)
      exact ⟨_, rfl, _, _, rfl, rfl, k⟩
    | look =>
      refine st_seq (st_no (ans_eq (hv 4 rfl) val_c rfl rfl) ?_)
      refine st_seq (st_no (ans_or (ans_eq (hv 4 rfl) val_c rfl rfl) (ans_eq (hv 4 rfl) val_c rfl rfl)) ?_)
      exact ⟨_, rfl, _, _, rfl, rfl, k⟩
    | hear b =>
      refine st_seq (st_no (ans_eq (hv 3 rfl) val_c rfl rfl) ?_)
      refine st_seq (st_yes (ans_or1 (ans_eq (hv 3 rfl) val_c rfl rfl)) ?_)
      exact ⟨_, rfl, _, _, rfl, rfl, k⟩
    | count b =>
      refine st_seq (st_no (ans_eq (hv 5 rfl) val_c rfl rfl) ?_)
      refine st_seq (st_yes (ans_or (ans_eq (hv 5 rfl) val_c rfl rfl) (ans_eq (hv 5 rfl) val_c rfl rfl)) ?_)
      exact ⟨_, rfl, _, _, rfl, rfl, k⟩
    | send id n b =>
      refine st_seq (st_yes (ans_eq (hv 1 rfl) val_c rfl rfl) ?_)
      refine ⟨_, rfl, _, _, rfl, rfl, _, rfl, _, rfl, _, _, rfl, rfl, _, _, rfl, rfl, a, _, _, .int (b.length : Int), rfl, rfl, hS, ?_, _, _, rfl, rfl, ?_⟩
      · have e : (i : Int) + 4 - 1 = ((i + 3 : Nat) : Int) := by omega
        rw [e]
        exact atI_nat (at_of (j := 3) hd rfl)
      · have e : ((i + (1 :: id :: n :: (b.length : Int) :: (b ++ [])).length : Nat) : Int) = (i : Int) + 4 + (b.length : Int) := by
          simp
          omega
        rw [e] at k
        exact k
/-! ### answer_to -/
theorem ok_answer_to (W : Env K mg) : FnOk P w K mg base CX0 8 W.f_answer_to W.fd_answer_to ["node", "call"] (spAnswerTo (NA W.C W.HC)) := by
  refine W.d_answer_to.F.ok sc_answer_to (fun vs H Q E h => ?_) (fun cdv A outer s H vs Q E hr h => ?_)
  · obtain ⟨_, _, _, _, _, _, rfl, _⟩ := h
    rfl
  · obtain ⟨x, c, A, s, l, cl, rfl, na, hc, cx, cA, T, hask, wf, k⟩ := h
    refine ⟨_, (pss_cons (ps_set (i := 2) sc_answer_to.nd rfl (Or.inl rfl) (pe_ix ix_list (pv 1) pe_int (fun _ _ => rfl)))
      (pss_cons (ps_if (pt_cmpR op_eq (pv 2) (pgI W.g_BEGIN) (nomark _)) (pss_one (ps_ret (pe_lst (pa_cons (pe_meth0 (pv 0) W.cl W.d_begin.m (ok_begin W) (hr.mono (by decide)) W.d_begin.b .nil pass0) pa_nil)))) pss_nil)
      (pss_cons (ps_if (pt_cmpR op_eq (pv 2) (pgI W.g_SEND) (nomark _)) (pss_one (ps_ret (pe_lst (pa_cons (pe_meth (pv 0) W.cl W.d_send.m (ok_send W) (hr.mono (by decide)) W.d_send.b .nil pass0 (pa_cons (pe_ix ix_list (pv 1) pe_int (fun _ _ => rfl)) (pa_cons (pe_ix ix_list (pv 1) pe_int (fun _ _ => rfl)) (pa_cons (pe_slice sl_list (pv 1) (po_some (pgI W.g_SEND_HEAD)) po_none) pa_nil)))) pa_nil)))) pss_nil)
      (pss_cons (ps_if (pt_cmpR op_eq (pv 2) (pgI W.g_OUT) (nomark _)) (pss_one (ps_ret (pe_lst (pa_cons (pe_meth0 (pv 0) W.cl W.d_out.m (ok_out W) (hr.mono (by decide)) W.d_out.b .nil pass0) pa_nil)))) pss_nil)
      (pss_cons (ps_if (pt_cmpR op_eq (pv 2) (pgI W.g_HEAR) (nomark _)) (pss_one (ps_ret (pe_lst (pa_cons (pe_meth (pv 0) W.cl W.d_hear.m (ok_hear W) (hr.mono (by decide)) W.d_hear.b .nil pass0 (pa_cons (pe_ix ix_list (pv 1) pe_int (fun _ _ => rfl)) pa_nil)) pa_nil)))) pss_nil)
      (pss_cons (ps_if (pt_cmpR op_eq (pv 2) (pgI W.g_LOOK) (nomark _)) (pss_one (ps_ret (pe_meth0 (pv 0) W.cl W.d_look.m (ok_look W) (hr.mono (by decide)) W.d_look.b .nil pass0))) pss_nil)
      (pss_cons (ps_if (pt_cmpR op_eq (pv 2) (pgI W.g_COUNT) (nomark _)) (pss_one (ps_ret (pe_lst (pa_cons (pe_meth (pv 0) W.cl W.d_counted.m (ok_counted W) (hr.mono (by decide)) W.d_counted.b .nil pass0 (pa_cons (pe_ix ix_list (pv 1) pe_int (fun _ _ => rfl)) pa_nil)) pa_nil)))) pss_nil)
      (pss_one ps_never)))))))), ?_⟩
    obtain ⟨dx, m, X⟩ := na
    have na : NA W.C W.HC H x A s := ⟨dx, m, X⟩
    have one : ∀ z : V, [z].length ≤ sizeLine := fun z => by show 1 ≤ sizeLine; decide
    have hat : ∀ (j : Nat) (z : Int), l[j]? = some z → atI (ivs l) (j : Int) = some (.int z) := fun j z hz => atI_nat (by
      unfold ivs
      rw [List.getElem?_map, hz]
      rfl)
    have first : ∀ z : Int, l[0]? = some z → Val (tOp (rIxL K) (tVar 1) (tC (.int 0))) [some (.ref x), some (.ref c), none] H (.int z) := fun z hz R q =>
      ⟨_, rfl, c, _, _, _, rfl, rfl, SqL.of hc, hat 0 z hz, q⟩
    cases T with
    | begin_ =>
      refine st_seq (st_set (v := V.int 0) (first 0 rfl) ?_)
      dsimp only
      refine st_seq (st_yes (ans_eq (val_var rfl) val_c rfl rfl) ?_)
      refine ⟨_, rfl, x, dx, _, rfl, X.o, rfl, x, dx, m.fs, rfl, X.o, .inr ⟨m, rfl⟩, one _, fun p np => ?_⟩
      rw [step_begin] at k
      exact fin_list (zs := [0]) na ⟨dx, NM.new, X.own (new_nb _ _) rfl rfl⟩ Stepd.upd np k
    | out =>
      refine st_seq (st_set (v := V.int 2) (first 2 rfl) ?_)
      dsimp only
      refine st_seq (st_no (ans_eq (val_var rfl) val_c rfl rfl) ?_)
      refine st_seq (st_no (ans_eq (val_var rfl) val_c rfl rfl) ?_)
      refine st_seq (st_yes (ans_eq (val_var rfl) val_c rfl rfl) ?_)
      refine ⟨_, rfl, x, dx, _, rfl, X.o, rfl, x, A, s, rfl, na, wf, one _, fun p np => ?_⟩
      rw [step_out] at k
      have e : [bv s.out] = ivs [if s.out = true then 1 else 0] := by
        cases s.out <;> rfl
      rw [e]
      exact fin_list na na (Stepd.refl H x A) np k
    | hear z =>
      refine st_seq (st_set (v := V.int 3) (first 3 rfl) ?_)
      dsimp only
      refine st_seq (st_no (ans_eq (val_var rfl) val_c rfl rfl) ?_)
      refine st_seq (st_no (ans_eq (val_var rfl) val_c rfl rfl) ?_)
      refine st_seq (st_no (ans_eq (val_var rfl) val_c rfl rfl) ?_)
      refine st_seq (st_yes (ans_eq (val_var rfl) val_c rfl rfl) ?_)
      rw [step_hearA] at k
      refine ⟨_, rfl, x, dx, _, rfl, X.o, rfl, _, rfl, c, _, _, .int z, rfl, rfl, SqL.of hc, hat 1 z rfl, x, A, s, z, rfl, na, wf, fun H1 A1 na1 sd1 => ⟨one _, fun p np => ?_⟩⟩
      exact fin_list (zs := [(hearA s z).2]) na na1 sd1 np k
    | look =>
      refine st_seq (st_set (v := V.int 4) (first 4 rfl) ?_)
      dsimp only
      refine st_seq (st_no (ans_eq (val_var rfl) val_c rfl rfl) ?_)
      refine st_seq (st_no (ans_eq (val_var rfl) val_c rfl rfl) ?_)
      refine st_seq (st_no (ans_eq (val_var rfl) val_c rfl rfl) ?_)
      refine st_seq (st_no (ans_eq (val_var rfl) val_c rfl rfl) ?_)
      refine st_seq (st_yes (ans_eq (val_var rfl) val_c rfl rfl) ?_)
      rw [step_lookA] at k
      refine ⟨_, rfl, x, dx, _, rfl, X.o, rfl, x, A, s, rfl, na, wf, fun H1 p s1 np hp => ?_⟩
      exact k H1 A p ((nodes W.C W.HC).keep na fun b o _ e => s1 b o e) (fun b hb => .inl hb) (fun b o e _ _ => s1 b o e) np hp
    | count z =>
      refine st_seq (st_set (v := V.int 5) (first 5 rfl) ?_)
      dsimp only
      refine st_seq (st_no (ans_eq (val_var rfl) val_c rfl rfl) ?_)
      refine st_seq (st_no (ans_eq (val_var rfl) val_c rfl rfl) ?_)
      refine st_seq (st_no (ans_eq (val_var rfl) val_c rfl rfl) ?_)
      refine st_seq (st_no (ans_eq (val_var rfl) val_c rfl rfl) ?_)
      refine st_seq (st_no (ans_eq (val_var rfl) val_c rfl rfl) ?_)
      refine st_seq (st_yes (ans_eq (val_var rfl) val_c rfl rfl) ?_)
      rw [step_countA] at k
      refine ⟨_, rfl, x, dx, _, rfl, X.o, rfl, _, rfl, c, _, _, .int z, rfl, rfl, SqL.of hc, hat 1 z rfl, x, A, s, z, rfl, na, one _, fun p np => ?_⟩
      exact fin_list (zs := [countA s z]) na na (Stepd.refl H x A) np k
    | send id n b =>
      refine st_seq (st_set (v := V.int 1) (first 1 rfl) ?_)
      dsimp only
      refine st_seq (st_no (ans_eq (val_var rfl) val_c rfl rfl) ?_)
      refine st_seq (st_yes (ans_eq (val_var rfl) val_c rfl rfl) ?_)
      rw [step_sendA hask] at k
      refine ⟨_, rfl, x, dx, _, rfl, X.o, rfl, _, rfl, c, _, _, .int id, rfl, rfl, SqL.of hc, hat 1 id rfl, _, rfl, c, _, _, .int n, rfl, rfl, SqL.of hc, hat 2 n rfl, _, rfl, _, rfl, c, _, rfl, SqL.of hc, fun q nq => ?_⟩
      have ecut : cutV (ivs (1 :: id :: n :: (b.length : Int) :: (b ++ []))) (some 4) none = ivs b := by
        unfold cutV
        rw [show (4 : Int) = ((4 : Nat) : Int) from rfl, HT.sIx_nat, ivs_length]
        simp [ivs, HT.sIx]
        exact List.take_of_length_le (by rw [List.length_map]; exact Nat.le_refl _)
      rw [ecut]
      have sq := same_upd (o := .lst (ivs b)) nq
      have na1 : NA W.C W.HC (upd H q (.lst (ivs b))) x A s := (nodes W.C W.HC).keep na fun b o _ e => sq b o e
      refine ⟨x, A, s, id, n, q, b, rfl, na1, wf, SqL.of upd_same, hask, fun H2 A2 na2 sd2 => ⟨one _, fun p np => ?_⟩⟩
      exact fin_list (zs := [(sendA s id n b).2]) na na2 (Stepd.of_same sq sd2) np k
end
end Cw

namespace Cw
open PySem PySem.Spec PyProof.Rows L2
open PySem.W (Codec)
theorem fin_mk {P : Program} {w : World} {K : PySem.W.Frag} {mg : Str → Option Value} {fa : Addr} (h : ∃ W : Env K mg, W.f_answers = fa) : ∃ fd : FuncData, (∀ (s : Shared) (us : List Value), us.length = (["calls"] : List Str).length → BindsTo s fd ⟨us, []⟩ ((["calls"] : List Str).zip us)) ∧ ∀ base : Heap, K.In base → base.Ns mainGlobals mg → FnOk P w K mg base CX0 9 fa fd ["calls"] (spAnswers K) := by
  obtain ⟨W, rfl⟩ := h
  refine ⟨W.fd_answers, fun s us hu => ?_, fun base _ _ => ok_answers (nodes W.C W.HC) W (ok_init W) (ok_end_of_call W) (ok_answer_to W)⟩
  obtain ⟨oc, od, kV, doc, pm, an, cdv, ct, osl, e, _, _⟩ := W.d_answers.F.ex
  rw [e]
  exact (match us, hu with | [_], _ => .of_eq rfl)
end Cw
open PySem PySem.W PyProof.Rows
set_option maxRecDepth 100000 in
set_option maxHeartbeats 0 in
theorem PySem.Challenge.cw_lowestwins_s01_answers_holds : PySem.Challenge.rw_lowestwins_s01_answers.Holds := by
  w_on; k_headS; (case hw => exact ⟨[.list [.int 0]], by decide +kernel, by decide +kernel⟩)
  k_fillS
  refine L2.walk_specK (r := PySem.Challenge.rw_lowestwins_s01_answers) (k := 9) (CX := L2.CX0) (ps := ["calls"]) (sp := Cw.spAnswers) (by decide +kernel) rfl rfl ⟨rfl, by decide, by decide⟩ (fun w h Y => PySem.W.kIn_of Y) ?F ?S (fun _ _ _ _ z => z)
  case F =>
    intro w mg fa h Y KX G hmg
    refine' Cw.fin_mk (Cw.env_mk KX G hmg ?aHC ?aC ?a1 ?l1 ?c1 ?k1 ?a2 ?l2 ?c2 ?k2 ?a3 ?l3 ?c3 ?k3 ?a4 ?l4 ?c4 ?k4 ?a5 ?l5 ?c5 ?k5 ?a6 ?l6 ?c6 ?k6 ?a7 ?l7 ?c7 ?k7 ?a8 ?i8 ?l8 ?c8 ?k8 ?a9 ?i9 ?l9 ?c9 ?k9 ?a10 ?i10 ?l10 ?c10 ?k10 ?a11 ?i11 ?l11 ?c11 ?k11 ?a12 ?i12 ?l12 ?c12 ?k12 ?a13 ?i13 ?l13 ?c13 ?k13 ?a14 ?i14 ?l14 ?c14 ?k14 ?a15 ?i15 ?l15 ?c15 ?k15 ?a16 ?i16 ?l16 ?c16 ?k16 ?a17 ?i17 ?l17 ?c17 ?k17 ?a18 ?i18 ?l18 ?c18 ?k18 ?a19 ?i19 ?l19 ?c19 ?k19 ?a20 ?i20 ?l20 ?c20 ?k20 ?a21 ?i21 ?l21 ?c21 ?k21 ?a22 ?i22 ?l22 ?c22 ?k22 ?a23 ?i23 ?l23 ?c23 ?k23 ?a24 ?i24 ?l24 ?c24 ?k24 ?a25 ?i25 ?l25 ?c25 ?k25 ?a26 ?i26 ?l26 ?c26 ?k26 ?a27 ?i27 ?l27 ?c27 ?k27 ?a28 ?i28 ?l28 ?c28 ?k28 ?a29 ?i29 ?l29 ?c29 ?k29 ?a30 ?i30 ?l30 ?c30 ?k30 ?a31 ?i31 ?l31 ?c31 ?k31 ?a32 ?i32 ?l32 ?c32 ?k32 ?a33 ?l33 ?c33 ?k33 ?a34 ?l34 ?c34 ?k34 ?a35 ?l35 ?c35 ?k35 ?pgH ?hdH ?poH ?saH ?mkH ?kcH ?pg ?hd ?po ?sa ?mk ?kc ?n_bits ?n_remainder ?n_last ?n_alike ?n_state ?n_ones ?n_wanted ?n_got ?n_sender_errors ?n_hearer_errors ?n_is_sender ?n_heard ?n_frame_at ?n_tail_at ?n_told ?z_len ?z_max ?z_min ?z_range ?g_HIGHEST_NAME ?g_MOST_BYTES ?g_NAME_BITS ?g_LENGTH_BITS ?g_BYTE_BITS ?g_SUM_BITS ?g_RANK_BITS ?g_LENGTH_AT ?g_HEAD_BITS ?g_SUM_POLYNOMIAL ?g_SUM_MASK ?g_MOST_ALIKE ?g_IDLE ?g_IN_FRAME ?g_IN_TAIL ?g_TELLING ?g_WAITING ?g_OFF ?g_CONFIRMING ?g_SUM_IS_JUDGED ?g_LAST_OF_TAIL ?g_ONES_OF_TAIL ?g_ONES_UNTIL_IDLE ?g_BITS_OF_TELLING ?g_SENDER_ERROR ?g_SENDER_IS_OFF ?g_HEARER_ERROR ?g_MOST_HEARER_ERRORS ?g_DONE ?g_GOT_FRAME ?g_OWN_IS_THROUGH ?g_ERROR ?g_ANOTHER_WINS ?g_NOW_OFF ?g_WANTS_ONE_ALREADY ?g_GOT_NONE ?g_OUT_OF_RANGE ?g_COUNT_SENDER_ERRORS ?g_COUNT_HEARER_ERRORS ?g_COUNT_STATE ?g_BEGIN ?g_SEND ?g_OUT ?g_HEAR ?g_LOOK ?g_COUNT ?g_SEND_HEAD)
    (case aHC => k_is); (case aC => k_is); (case a1 => k_is); (case l1 => k_is); (case c1 => k_is); (case k1 => k_is)
    (case a2 => k_is); (case l2 => k_is); (case c2 => k_is); (case k2 => k_is); (case a3 => k_is); (case l3 => k_is)
    (case c3 => k_is); (case k3 => k_is); (case a4 => k_is); (case l4 => k_is); (case c4 => k_is); (case k4 => k_is)
    (case a5 => k_is); (case l5 => k_is); (case c5 => k_is); (case k5 => k_is); (case a6 => k_is); (case l6 => k_is)
    (case c6 => k_is); (case k6 => k_is); (case a7 => k_is); (case l7 => k_is); (case c7 => k_is); (case k7 => k_is)
    (case a8 => k_is); (case i8 => k_is); (case l8 => k_is); (case c8 => k_is); (case k8 => k_is); (case a9 => k_is)
    (case i9 => k_is); (case l9 => k_is); (case c9 => k_is); (case k9 => k_is); (case a10 => k_is); (case i10 => k_is)
    (case l10 => k_is); (case c10 => k_is); (case k10 => k_is); (case a11 => k_is); (case i11 => k_is); (case l11 => k_is)
    (case c11 => k_is); (case k11 => k_is); (case a12 => k_is); (case i12 => k_is); (case l12 => k_is); (case c12 => k_is)
    (case k12 => k_is); (case a13 => k_is); (case i13 => k_is); (case l13 => k_is); (case c13 => k_is); (case k13 => k_is)
    (case a14 => k_is); (case i14 => k_is); (case l14 => k_is); (case c14 => k_is); (case k14 => k_is); (case a15 => k_is)
    (case i15 => k_is); (case l15 => k_is); (case c15 => k_is); (case k15 => k_is); (case a16 => k_is); (case i16 => k_is)
    (case l16 => k_is); (case c16 => k_is); (case k16 => k_is); (case a17 => k_is); (case i17 => k_is); (case l17 => k_is)
    (case c17 => k_is); (case k17 => k_is); (case a18 => k_is); (case i18 => k_is); (case l18 => k_is); (case c18 => k_is)
    (case k18 => k_is); (case a19 => k_is); (case i19 => k_is); (case l19 => k_is); (case c19 => k_is); (case k19 => k_is)
    (case a20 => k_is); (case i20 => k_is); (case l20 => k_is); (case c20 => k_is); (case k20 => k_is); (case a21 => k_is)
    (case i21 => k_is); (case l21 => k_is); (case c21 => k_is); (case k21 => k_is); (case a22 => k_is); (case i22 => k_is)
    (case l22 => k_is); (case c22 => k_is); (case k22 => k_is); (case a23 => k_is); (case i23 => k_is); (case l23 => k_is)
    (case c23 => k_is); (case k23 => k_is); (case a24 => k_is); (case i24 => k_is); (case l24 => k_is); (case c24 => k_is)
    (case k24 => k_is); (case a25 => k_is); (case i25 => k_is); (case l25 => k_is); (case c25 => k_is); (case k25 => k_is)
    (case a26 => k_is); (case i26 => k_is); (case l26 => k_is); (case c26 => k_is); (case k26 => k_is); (case a27 => k_is)
    (case i27 => k_is); (case l27 => k_is); (case c27 => k_is); (case k27 => k_is); (case a28 => k_is); (case i28 => k_is)
    (case l28 => k_is); (case c28 => k_is); (case k28 => k_is); (case a29 => k_is); (case i29 => k_is); (case l29 => k_is)
    (case c29 => k_is); (case k29 => k_is); (case a30 => k_is); (case i30 => k_is); (case l30 => k_is); (case c30 => k_is)
    (case k30 => k_is); (case a31 => k_is); (case i31 => k_is); (case l31 => k_is); (case c31 => k_is); (case k31 => k_is)
    (case a32 => k_is); (case i32 => k_is); (case l32 => k_is); (case c32 => k_is); (case k32 => k_is); (case a33 => k_is)
    (case l33 => k_is); (case c33 => k_is); (case k33 => k_is); (case a34 => k_is); (case l34 => k_is); (case c34 => k_is)
    (case k34 => k_is); (case a35 => k_is); (case l35 => k_is); (case c35 => k_is); (case k35 => k_is); (case pgH => k_is)
    (case hdH => k_is); (case poH => k_is); (case saH => k_is); (case mkH => k_is); (case kcH => k_is); (case pg => k_is)
    (case hd => k_is); (case po => k_is); (case sa => k_is); (case mk => k_is); (case kc => k_is); (case n_bits => k_is)
    (case n_remainder => k_is); (case n_last => k_is); (case n_alike => k_is); (case n_state => k_is); (case n_ones => k_is); (case n_wanted => k_is)
    (case n_got => k_is); (case n_sender_errors => k_is); (case n_hearer_errors => k_is); (case n_is_sender => k_is); (case n_heard => k_is); (case n_frame_at => k_is)
    (case n_tail_at => k_is); (case n_told => k_is); (case z_len => k_is); (case z_max => k_is); (case z_min => k_is); (case z_range => k_is)
    (case g_HIGHEST_NAME => k_is); (case g_MOST_BYTES => k_is); (case g_NAME_BITS => k_is); (case g_LENGTH_BITS => k_is); (case g_BYTE_BITS => k_is); (case g_SUM_BITS => k_is)
    (case g_RANK_BITS => k_is); (case g_LENGTH_AT => k_is); (case g_HEAD_BITS => k_is); (case g_SUM_POLYNOMIAL => k_is); (case g_SUM_MASK => k_is); (case g_MOST_ALIKE => k_is)
    (case g_IDLE => k_is); (case g_IN_FRAME => k_is); (case g_IN_TAIL => k_is); (case g_TELLING => k_is); (case g_WAITING => k_is); (case g_OFF => k_is)
    (case g_CONFIRMING => k_is); (case g_SUM_IS_JUDGED => k_is); (case g_LAST_OF_TAIL => k_is); (case g_ONES_OF_TAIL => k_is); (case g_ONES_UNTIL_IDLE => k_is); (case g_BITS_OF_TELLING => k_is)
    (case g_SENDER_ERROR => k_is); (case g_SENDER_IS_OFF => k_is); (case g_HEARER_ERROR => k_is); (case g_MOST_HEARER_ERRORS => k_is); (case g_DONE => k_is); (case g_GOT_FRAME => k_is)
    (case g_OWN_IS_THROUGH => k_is); (case g_ERROR => k_is); (case g_ANOTHER_WINS => k_is); (case g_NOW_OFF => k_is); (case g_WANTS_ONE_ALREADY => k_is); (case g_GOT_NONE => k_is)
    (case g_OUT_OF_RANGE => k_is); (case g_COUNT_SENDER_ERRORS => k_is); (case g_COUNT_HEARER_ERRORS => k_is); (case g_COUNT_STATE => k_is); (case g_BEGIN => k_is); (case g_SEND => k_is)
    (case g_OUT => k_is); (case g_HEAR => k_is); (case g_LOOK => k_is); (case g_COUNT => k_is); (case g_SEND_HEAD => k_is)
  case S =>
    intro K H xs a hO hwi hask hx
    cases hx with
    | cons h1 h2 =>
      cases h2
      cases h1 with
      | lst hs ha =>
        have e := L2.ints_dw a.1 _ ha
        subst e
        exact ⟨_, a.1, rfl, hs, hask, fun H' p hp => .lst (L2.SqL.of hp) (L2.dw_ints _)⟩
