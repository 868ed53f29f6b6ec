import PyProof.Rows.All
import KeysSpec
import CdKeys
import Wide.All
import OpenK.AllK
import Wide.FinOn
import PyProof.EqAt
import PyProof.EqKinds
import PyProof.TupleCall
import Open.SpecLaws
import KE.OsGo
import HandS.ForMost
import HandS.ForSpec
import HandS.WideBits
import HandS.Evl
import HandS.Zip
import HandS.More
import HandS.Flow
import PySem.Challenge.RW_strokehall_s01_answers
import CdBase
import HandS.Walk
import PyWrchka
import HandS.Head0
import HandS.Head1
import HandS.Head2
import HandS.Head3
import HandS.Head4
import HandS.HeadEnd
import HandS.HeadHook1
import HandS.HeadHook2
set_option Elab.async false
set_option linter.all false
set_option maxRecDepth 100000
set_option maxHeartbeats 8000000
-- XBits
/-! Bits of whole numbers: what the program does with masks, and what the document's model does with sums. -/
namespace Kx

theorem xor_mod_two (a b : Nat) : (a ^^^ b) % 2 = (a % 2 + b % 2) % 2 := by
  have e : (a ^^^ b) % 2 = (a % 2) ^^^ (b % 2) := Nat.xor_mod_two_pow (n := 1)
  rw [e]
  rcases Nat.mod_two_eq_zero_or_one a with x | x <;> rcases Nat.mod_two_eq_zero_or_one b with y | y <;> rw [x, y] <;> rfl
theorem xor_bit_false : ∀ (k h : Nat), h.testBit k = false → h ^^^ 2 ^ k = h + 2 ^ k
  | 0, h, e => by
    have e0 : h % 2 = 0 := by
      rw [Nat.testBit_zero] at e
      have := of_decide_eq_false e
      omega
    have a : (h ^^^ 2 ^ 0) / 2 = h / 2 := by rw [Nat.xor_div_two]; simp
    have b : (h ^^^ 2 ^ 0) % 2 = 1 := by rw [xor_mod_two]; omega
    omega
  | k + 1, h, e => by
    rw [Nat.testBit_add_one] at e
    have ih := xor_bit_false k (h / 2) e
    have p : 2 ^ (k + 1) = 2 * 2 ^ k := by rw [Nat.pow_succ]; omega
    have a : (h ^^^ 2 ^ (k + 1)) / 2 = h / 2 ^^^ 2 ^ k := by
      rw [Nat.xor_div_two, p]
      congr 1
      omega
    have b : (h ^^^ 2 ^ (k + 1)) % 2 = h % 2 := by
      rw [xor_mod_two, p]
      omega
    omega

theorem xor_bit_true : ∀ (k h : Nat), h.testBit k = true → h ^^^ 2 ^ k = h - 2 ^ k
  | 0, h, e => by
    have e0 : h % 2 = 1 := by
      rw [Nat.testBit_zero] at e
      exact of_decide_eq_true e
    have a : (h ^^^ 2 ^ 0) / 2 = h / 2 := by rw [Nat.xor_div_two]; simp
    have b : (h ^^^ 2 ^ 0) % 2 = 0 := by rw [xor_mod_two]; omega
    omega
  | k + 1, h, e => by
    rw [Nat.testBit_add_one] at e
    have ih := xor_bit_true k (h / 2) e
    have p : 2 ^ (k + 1) = 2 * 2 ^ k := by rw [Nat.pow_succ]; omega
    have ge := Nat.ge_two_pow_of_testBit e
    have a : (h ^^^ 2 ^ (k + 1)) / 2 = h / 2 ^^^ 2 ^ k := by
      rw [Nat.xor_div_two, p]
      congr 1
      omega
    have b : (h ^^^ 2 ^ (k + 1)) % 2 = h % 2 := by
      rw [xor_mod_two, p]
      omega
    omega

theorem testBit_flip (h k j : Nat) : (h ^^^ 2 ^ k).testBit j = (h.testBit j != decide (k = j)) := by
  rw [Nat.testBit_xor, Nat.testBit_two_pow]

/-- the keys that are down, behind one change more -/
def turnKey (h : Nat) (k : Nat) (d : Bool) : Nat := if d = true then h + CdKeys.bit k else h - CdKeys.bit k

theorem turnKey_xor {h k : Nat} {d : Bool} (e : h.testBit k ≠ d) : turnKey h k d = h ^^^ 2 ^ k := by
  unfold turnKey CdKeys.bit
  cases d with
  | true =>
    rw [if_pos rfl, xor_bit_false k h]
    cases hh : h.testBit k with
    | true => exact absurd hh e
    | false => rfl
  | false =>
    rw [if_neg (by decide), xor_bit_true k h]
    cases hh : h.testBit k with
    | false => exact absurd hh e
    | true => rfl

theorem testBit_turnKey {h k : Nat} {d : Bool} (e : h.testBit k ≠ d) (j : Nat) : (turnKey h k d).testBit j = if j = k then d else h.testBit j := by
  rw [turnKey_xor e, testBit_flip]
  by_cases c : j = k
  · subst c
    rw [if_pos rfl]
    cases d <;> cases hh : h.testBit j <;> simp_all
  · rw [if_neg c]
    have : decide (k = j) = false := decide_eq_false (fun z => c z.symm)
    rw [this]
    cases h.testBit j <;> rfl
end Kx

-- XNews
/-! The keys' news: what the program keeps of it, step by step, against the document's model, which looks at all news at once. -/
namespace Kx
open Cd CdKeys

/-- a change, and whether it's a down too soon behind its key's up -/
abbrev Tc := Event × Bool
abbrev Ups := Nat → Option Nat
def noUps : Ups := fun _ => none
def upU (u : Ups) (k t : Nat) : Ups := fun j => if j = k then some t else u j
def nextUps (u : Ups) (e : Event) : Ups := if e.down = true then u else upU u e.key e.tick
def soon (b : Nat) (u : Ups) (e : Event) : Bool := e.down && (match u e.key with
  | some t => decide (e.tick < t + b)
  | none => false)
def tagC (b : Nat) : Ups → List Event → List Tc
  | _, [] => []
  | u, e :: r => (e, soon b u e) :: tagC b (nextUps u e) r
def lastUps : Ups → List Event → Ups
  | u, [] => u
  | u, e :: r => lastUps (nextUps u e) r
def heldOn : Nat → List Event → Nat
  | h, [] => h
  | h, e :: r => heldOn (turnKey h e.key e.down) r

theorem tagC_cons (b : Nat) (u : Ups) (e : Event) (r : List Event) : tagC b u (e :: r) = (e, soon b u e) :: tagC b (nextUps u e) r := rfl
theorem tagC_append (b : Nat) : ∀ (C D : List Event) (u : Ups), tagC b u (C ++ D) = tagC b u C ++ tagC b (lastUps u C) D
  | [], _, _ => rfl
  | e :: r, D, u => by
    show (e, soon b u e) :: tagC b (nextUps u e) (r ++ D) = _
    rw [tagC_append b r D]
    rfl
theorem lastUps_append : ∀ (C D : List Event) (u : Ups), lastUps u (C ++ D) = lastUps (lastUps u C) D
  | [], _, _ => rfl
  | e :: r, D, u => lastUps_append r D (nextUps u e)
theorem heldOn_append : ∀ (C D : List Event) (h : Nat), heldOn h (C ++ D) = heldOn (heldOn h C) D
  | [], _, _ => rfl
  | e :: r, D, h => heldOn_append r D (turnKey h e.key e.down)
theorem tagC_fst (b : Nat) : ∀ (C : List Event) (u : Ups), (tagC b u C).map (fun x => x.1) = C
  | [], _ => rfl
  | e :: r, u => congrArg (e :: ·) (tagC_fst b r (nextUps u e))

/-! ### changes -/
theorem changes_cons_same {h : Nat} {e : Event} {r : List Event} (c : h.testBit e.key = e.down) : changes h (e :: r) = changes h r := by
  show (if h.testBit e.key = e.down then changes h r else _) = _
  rw [if_pos c]
theorem changes_cons_turn {h : Nat} {e : Event} {r : List Event} (c : ¬ h.testBit e.key = e.down) : changes h (e :: r) = e :: changes (turnKey h e.key e.down) r := by
  show (if h.testBit e.key = e.down then changes h r else _) = _
  rw [if_neg c]
  rfl
theorem changes_append : ∀ (l m : List Event) (h : Nat), changes h (l ++ m) = changes h l ++ changes (heldOn h (changes h l)) m
  | [], _, _ => rfl
  | e :: r, m, h => by
    by_cases c : h.testBit e.key = e.down
    · rw [List.cons_append, changes_cons_same c, changes_cons_same c]
      exact changes_append r m h
    · rw [List.cons_append, changes_cons_turn c, changes_cons_turn c, List.cons_append, changes_append r m]
      rfl
theorem heldBy_eq (l : List Event) : heldBy l = heldOn 0 (changes 0 l) := by
  unfold heldBy
  generalize changes 0 l = C
  generalize 0 = h
  induction C generalizing h with
  | nil => rfl
  | cons e r ih => exact ih _

/-- what the program makes of a feed's events: the changes with their marks, the keys that are down, the last ups -/
def chIn (b : Nat) : Nat → Ups → List Event → List Tc × (Nat × Ups)
  | h, u, [] => ([], (h, u))
  | h, u, e :: r => if h.testBit e.key = e.down then chIn b h u r else
    let z := chIn b (turnKey h e.key e.down) (nextUps u e) r
    ((e, soon b u e) :: z.1, z.2)
theorem chIn_is (b : Nat) : ∀ (l : List Event) (h : Nat) (u : Ups), chIn b h u l = (tagC b u (changes h l), (heldOn h (changes h l), lastUps u (changes h l)))
  | [], _, _ => rfl
  | e :: r, h, u => by
    unfold chIn
    by_cases c : h.testBit e.key = e.down
    · rw [if_pos c, changes_cons_same c]
      exact chIn_is b r h u
    · rw [if_neg c, changes_cons_turn c, chIn_is b r]
      rfl

/-- downs and ups of each key take turns -/
def Alt : (Nat → Bool) → List Event → Prop
  | _, [] => True
  | g, e :: r => g e.key ≠ e.down ∧ Alt (fun j => if j = e.key then e.down else g j) r
theorem alt_congr : ∀ (C : List Event) {g g' : Nat → Bool}, (∀ j, g j = g' j) → Alt g C → Alt g' C
  | [], _, _, _, _ => trivial
  | e :: r, g, g', h, ⟨a, b⟩ => ⟨by rw [← h]; exact a, alt_congr r (fun j => by
    by_cases c : j = e.key
    · rw [if_pos c, if_pos c]
    · rw [if_neg c, if_neg c]
      exact h j) b⟩
theorem alt_changes : ∀ (l : List Event) (h : Nat), Alt h.testBit (changes h l)
  | [], _ => trivial
  | e :: r, h => by
    by_cases c : h.testBit e.key = e.down
    · rw [changes_cons_same c]
      exact alt_changes r h
    · rw [changes_cons_turn c]
      exact ⟨c, alt_congr _ (fun j => testBit_turnKey c j) (alt_changes r _)⟩

/-! ### what's believed: by marks -/
/-- the first event of a key -/
def nextOf (k : Nat) (l : List Tc) : Option Tc := l.find? fun x => x.1.key == k
/-- what's believed up to the first unsure up; what waits from there on -/
def sieve (b now : Nat) : List Tc → List Event × List Tc
  | [] => ([], [])
  | (e, s) :: r =>
    if e.down = true then (if s = true then sieve b now r else (e :: (sieve b now r).1, (sieve b now r).2))
    else match nextOf e.key r with
      | some x => if x.2 = true then sieve b now r else (e :: (sieve b now r).1, (sieve b now r).2)
      | none => if now < e.tick + b then ([], (e, s) :: r) else (e :: (sieve b now r).1, (sieve b now r).2)
/-- up to which tick it counts -/
def reachOf (now : Nat) : List Tc → Nat
  | [] => now
  | (e, _) :: _ => e.tick

theorem find_tag (b k : Nat) : ∀ (C : List Event) (u : Ups), (C.find? fun x => x.key == k) = (nextOf k (tagC b u C)).map (fun x => x.1)
  | [], _ => rfl
  | e :: r, u => by
    unfold nextOf tagC
    by_cases c : (e.key == k) = true
    · rw [List.find?_cons_of_pos (p := fun x : Event => x.key == k) c, List.find?_cons_of_pos (p := fun x : Tc => x.1.key == k) (by exact c)]
      rfl
    · rw [List.find?_cons_of_neg (p := fun x : Event => x.key == k) c, List.find?_cons_of_neg (p := fun x : Tc => x.1.key == k) (by exact c)]
      exact find_tag b k r _

/-- in a row of changes the first event of a key is the other way round from how the key stands; its mark speaks of the last up -/
theorem next_alt (b k : Nat) : ∀ (C : List Event) (u : Ups) (g : Nat → Bool) (x : Tc), Alt g C → nextOf k (tagC b u C) = some x →
    x.1.down = !(g k) ∧ x.1.key = k ∧ x.2 = (x.1.down && (match u k with
      | some t => decide (x.1.tick < t + b)
      | none => false))
  | [], _, _, _, _, h => by cases h
  | e :: r, u, g, x, ⟨a, al⟩, h => by
    unfold nextOf tagC at h
    by_cases c : (e.key == k) = true
    · rw [List.find?_cons_of_pos (by exact c)] at h
      have ee := Option.some.inj h
      subst ee
      have ek : e.key = k := eq_of_beq c
      refine ⟨?_, ek, ?_⟩
      · show e.down = !(g k)
        rw [← ek]
        cases hd : e.down <;> cases hg : g e.key <;> simp_all
      · show soon b u e = _
        unfold soon
        rw [ek]
    · rw [List.find?_cons_of_neg (by exact c)] at h
      have ek : ¬ k = e.key := fun z => c (by rw [z]; exact beq_self_eq_true _)
      have ih := next_alt b k r (nextUps u e) _ x al h
      have e1 : (if k = e.key then e.down else g k) = g k := if_neg ek
      have e2 : nextUps u e k = u k := by
        unfold nextUps
        split
        · rfl
        · exact if_neg ek
      simp only [e1, e2] at ih
      exact ih

/-- the keys whose next event is a down that's not believed -/
def Con (b : Nat) (skip : List Nat) (u : Ups) (C : List Event) : Prop :=
  skip.Nodup ∧ ∀ k, k ∈ skip ↔ ∃ x, nextOf k (tagC b u C) = some x ∧ x.2 = true

theorem nextOf_cons_ne {k : Nat} {x : Tc} {r : List Tc} (h : ¬ x.1.key = k) : nextOf k (x :: r) = nextOf k r := by
  unfold nextOf
  rw [List.find?_cons_of_neg (by intro z; exact h (eq_of_beq z))]
theorem nextOf_cons_eq {k : Nat} {x : Tc} {r : List Tc} (h : x.1.key = k) : nextOf k (x :: r) = some x := by
  unfold nextOf
  rw [List.find?_cons_of_pos (by rw [h]; exact beq_self_eq_true _)]

theorem con_step {b : Nat} {skip skip' : List Nat} {u : Ups} {e : Event} {r : List Event} (c : Con b skip u (e :: r)) (nd : skip'.Nodup)
    (o : ∀ k, k ≠ e.key → (k ∈ skip' ↔ k ∈ skip)) (s : e.key ∈ skip' ↔ ∃ x, nextOf e.key (tagC b (nextUps u e) r) = some x ∧ x.2 = true) : Con b skip' (nextUps u e) r := by
  refine ⟨nd, fun k => ?_⟩
  by_cases ck : k = e.key
  · rw [ck]
    exact s
  · rw [o k ck, c.2 k, tagC_cons, nextOf_cons_ne (by intro z; exact ck z.symm)]

theorem sift_is (b now : Nat) : ∀ (C : List Event) (skip : List Nat) (u : Ups) (g : Nat → Bool), Alt g C → Con b skip u C →
    sift b now skip C = ((sieve b now (tagC b u C)).1, (reachOf now (sieve b now (tagC b u C)).2, (sieve b now (tagC b u C)).2.map (fun x => x.1)))
  | [], _, _, _, _, _ => rfl
  | e :: r, skip, u, g, ⟨a, al⟩, c => by
    have self : (∃ x, nextOf e.key (tagC b u (e :: r)) = some x ∧ x.2 = true) ↔ soon b u e = true := by
      rw [tagC_cons, nextOf_cons_eq (k := e.key) (x := (e, soon b u e)) rfl]
      constructor
      · rintro ⟨x, hx, h2⟩
        cases hx
        exact h2
      · intro h
        exact ⟨_, rfl, h⟩
    unfold sift tagC sieve
    by_cases d : e.down = true
    · rw [if_pos d, if_pos d]
      have nxt : ¬ ∃ x, nextOf e.key (tagC b (nextUps u e) r) = some x ∧ x.2 = true := by
        rintro ⟨x, hx, h2⟩
        have q := next_alt b e.key r _ _ x al hx
        rw [if_pos rfl, d] at q
        rw [q.2.2, q.1] at h2
        simp at h2
      by_cases s : soon b u e = true
      · have m : e.key ∈ skip := (c.2 e.key).mpr (self.mpr s)
        rw [if_pos (by rw [List.contains_iff_mem]; exact m), if_pos s]
        exact sift_is b now r (skip.erase e.key) (nextUps u e) _ al (con_step c (c.1.erase _) (fun k hk => List.mem_erase_of_ne hk)
          ⟨fun h => absurd h (List.Nodup.not_mem_erase c.1), fun h => absurd h nxt⟩)
      · have m : ¬ e.key ∈ skip := fun z => s (self.mp ((c.2 e.key).mp z))
        rw [if_neg (by rw [List.contains_iff_mem]; exact m), if_neg s]
        have ih := sift_is b now r skip (nextUps u e) _ al (con_step c c.1 (fun _ _ => Iff.rfl) ⟨fun h => absurd h m, fun h => absurd h nxt⟩)
        simp only [ih]
    · rw [if_neg d, if_neg d]
      have df : e.down = false := by
        cases h : e.down
        · rfl
        · exact absurd h d
      have m : ¬ e.key ∈ skip := by
        intro z
        have := self.mp ((c.2 e.key).mp z)
        unfold soon at this
        rw [df] at this
        simp at this
      rw [find_tag b e.key r (nextUps u e)]
      cases hn : nextOf e.key (tagC b (nextUps u e) r) with
      | none =>
        simp only [Option.map_none]
        have ih := sift_is b now r skip (nextUps u e) _ al (con_step c c.1 (fun _ _ => Iff.rfl) ⟨fun h => absurd h m, fun h => by
          rcases h with ⟨x, hx, _⟩
          rw [hn] at hx
          cases hx⟩)
        by_cases w : now < e.tick + b
        · rw [if_pos w, if_pos w]
          show _ = ([], (e.tick, e :: (tagC b (nextUps u e) r).map (fun x => x.1)))
          rw [tagC_fst]
        · rw [if_neg w, if_neg w]
          simp only [ih]
      | some x =>
        simp only [Option.map_some]
        have q := next_alt b e.key r _ _ x al hn
        rw [if_pos rfl, df] at q
        have eu : nextUps u e e.key = some e.tick := by
          unfold nextUps upU
          rw [if_neg d, if_pos rfl]
        rw [eu, q.1] at q
        have x2 : x.2 = decide (x.1.tick < e.tick + b) := by
          have := q.2.2
          simpa using this
        by_cases w : x.1.tick < e.tick + b
        · have xt : x.2 = true := by rw [x2]; exact decide_eq_true w
          rw [if_pos w, if_pos xt]
          refine sift_is b now r (e.key :: skip) (nextUps u e) _ al (con_step c (List.nodup_cons.mpr ⟨m, c.1⟩) (fun k hk => ?_) ⟨fun _ => ⟨x, hn, xt⟩, fun _ => List.mem_cons_self⟩)
          rw [List.mem_cons]
          exact ⟨fun h => h.resolve_left hk, Or.inr⟩
        · have xt : ¬ x.2 = true := by rw [x2, decide_eq_true_eq]; exact w
          rw [if_neg w, if_neg xt]
          have ih := sift_is b now r skip (nextUps u e) _ al (con_step c c.1 (fun _ _ => Iff.rfl) ⟨fun h => absurd h m, fun h => by
            rcases h with ⟨y, hy, h2⟩
            rw [hn] at hy
            cases hy
            exact absurd h2 xt⟩)
          simp only [ih]

/-- at the beginning no key's next event is too soon -/
theorem con_start (b : Nat) (C : List Event) (g : Nat → Bool) (al : Alt g C) : Con b [] noUps C :=
  ⟨List.nodup_nil, fun k => ⟨fun h => (by cases h), fun ⟨x, hx, h2⟩ => by
    have q := next_alt b k C noUps g x al hx
    rw [q.2.2] at h2
    simp [noUps] at h2⟩⟩

/-! ### more news -/
/-- more news leaves what was believed, and goes on with what waits -/
theorem sieve_more (b now now' : Nat) (hn : now ≤ now') : ∀ (C D : List Event) (u : Ups) (g : Nat → Bool), Alt g (C ++ D) → (∀ d ∈ D, now ≤ d.tick) →
    sieve b now' (tagC b u (C ++ D)) = ((sieve b now (tagC b u C)).1 ++ (sieve b now' ((sieve b now (tagC b u C)).2 ++ tagC b (lastUps u C) D)).1,
      (sieve b now' ((sieve b now (tagC b u C)).2 ++ tagC b (lastUps u C) D)).2)
  | [], D, u, g, _, _ => rfl
  | e :: r, D, u, g, ⟨a, al⟩, hD => by
    have ih := sieve_more b now now' hn r D (nextUps u e) _ al hD
    have bel : ∀ {z : List Event × List Tc}, sieve b now' (tagC b u ((e :: r) ++ D)) = (e :: (sieve b now' (tagC b (nextUps u e) (r ++ D))).1, (sieve b now' (tagC b (nextUps u e) (r ++ D))).2) →
        sieve b now (tagC b u (e :: r)) = (e :: (sieve b now (tagC b (nextUps u e) r)).1, (sieve b now (tagC b (nextUps u e) r)).2) →
        sieve b now' (tagC b u ((e :: r) ++ D)) = ((sieve b now (tagC b u (e :: r))).1 ++ (sieve b now' ((sieve b now (tagC b u (e :: r))).2 ++ tagC b (lastUps u (e :: r)) D)).1,
          (sieve b now' ((sieve b now (tagC b u (e :: r))).2 ++ tagC b (lastUps u (e :: r)) D)).2) := by
      intro _ e1 e2
      rw [e1, e2, ih]
      rfl
    have un : ∀ {z : List Event × List Tc}, sieve b now' (tagC b u ((e :: r) ++ D)) = sieve b now' (tagC b (nextUps u e) (r ++ D)) →
        sieve b now (tagC b u (e :: r)) = sieve b now (tagC b (nextUps u e) r) →
        sieve b now' (tagC b u ((e :: r) ++ D)) = ((sieve b now (tagC b u (e :: r))).1 ++ (sieve b now' ((sieve b now (tagC b u (e :: r))).2 ++ tagC b (lastUps u (e :: r)) D)).1,
          (sieve b now' ((sieve b now (tagC b u (e :: r))).2 ++ tagC b (lastUps u (e :: r)) D)).2) := by
      intro _ e1 e2
      rw [e1, e2, ih]
      rfl
    have app : tagC b (nextUps u e) (r ++ D) = tagC b (nextUps u e) r ++ tagC b (lastUps (nextUps u e) r) D := tagC_append b r D _
    by_cases d : e.down = true
    · by_cases s : soon b u e = true
      · refine un (z := ([], [])) ?_ ?_
        · show sieve b now' ((e, soon b u e) :: tagC b (nextUps u e) (r ++ D)) = _
          conv => lhs; unfold sieve
          rw [if_pos d, if_pos s]
        · show sieve b now ((e, soon b u e) :: tagC b (nextUps u e) r) = _
          conv => lhs; unfold sieve
          rw [if_pos d, if_pos s]
      · refine bel (z := ([], [])) ?_ ?_
        · show sieve b now' ((e, soon b u e) :: tagC b (nextUps u e) (r ++ D)) = _
          conv => lhs; unfold sieve
          rw [if_pos d, if_neg s]
        · show sieve b now ((e, soon b u e) :: tagC b (nextUps u e) r) = _
          conv => lhs; unfold sieve
          rw [if_pos d, if_neg s]
    · have df : e.down = false := by
        cases h : e.down
        · rfl
        · exact absurd h d
      cases hx : nextOf e.key (tagC b (nextUps u e) r) with
      | some x =>
        have hx' : nextOf e.key (tagC b (nextUps u e) (r ++ D)) = some x := by
          rw [app]
          unfold nextOf at hx ⊢
          rw [List.find?_append, hx]
          rfl
        by_cases s : x.2 = true
        · refine un (z := ([], [])) ?_ ?_
          · show sieve b now' ((e, soon b u e) :: tagC b (nextUps u e) (r ++ D)) = _
            conv => lhs; unfold sieve
            rw [if_neg d, hx']
            exact if_pos s
          · show sieve b now ((e, soon b u e) :: tagC b (nextUps u e) r) = _
            conv => lhs; unfold sieve
            rw [if_neg d, hx]
            exact if_pos s
        · refine bel (z := ([], [])) ?_ ?_
          · show sieve b now' ((e, soon b u e) :: tagC b (nextUps u e) (r ++ D)) = _
            conv => lhs; unfold sieve
            rw [if_neg d, hx']
            exact if_neg s
          · show sieve b now ((e, soon b u e) :: tagC b (nextUps u e) r) = _
            conv => lhs; unfold sieve
            rw [if_neg d, hx]
            exact if_neg s
      | none =>
        by_cases w : now < e.tick + b
        · -- unsure: all waits
          have e2 : sieve b now (tagC b u (e :: r)) = ([], tagC b u (e :: r)) := by
            show sieve b now ((e, soon b u e) :: tagC b (nextUps u e) r) = _
            conv => lhs; unfold sieve
            rw [if_neg d, hx]
            exact if_pos w
          rw [e2, ← tagC_append]
          rfl
        · have e2 : sieve b now (tagC b u (e :: r)) = (e :: (sieve b now (tagC b (nextUps u e) r)).1, (sieve b now (tagC b (nextUps u e) r)).2) := by
            show sieve b now ((e, soon b u e) :: tagC b (nextUps u e) r) = _
            conv => lhs; unfold sieve
            rw [if_neg d, hx]
            exact if_neg w
          refine bel (z := ([], [])) ?_ e2
          show sieve b now' ((e, soon b u e) :: tagC b (nextUps u e) (r ++ D)) = _
          conv => lhs; unfold sieve
          rw [if_neg d]
          cases hy : nextOf e.key (tagC b (nextUps u e) (r ++ D)) with
          | none => exact if_neg (by omega)
          | some y =>
            have q := next_alt b e.key (r ++ D) _ _ y al hy
            have eu : nextUps u e e.key = some e.tick := by
              unfold nextUps upU
              rw [if_neg d, if_pos rfl]
            have iny : y.1 ∈ D := by
              rw [app] at hy
              unfold nextOf at hx hy
              rw [List.find?_append, hx] at hy
              have m := List.mem_of_find?_eq_some hy
              have := List.mem_map_of_mem (f := fun x : Tc => x.1) m
              rw [tagC_fst] at this
              exact this
            have ge := hD _ iny
            refine if_neg ?_
            rw [q.2.2, eu]
            have : ¬ y.1.tick < e.tick + b := by omega
            simp [this]
end Kx

-- XRuns
/-! Strokes: one change at a time, and a feed at a time, against the document's model. -/
namespace Kx
open Cd CdKeys

/-! ### time -/
theorem over_off {p : Policy} {s : Run} {t : Nat} (h : ¬ (p.way = 2 ∧ s.fresh ≠ 0 ∧ s.last + p.gap ≤ t)) : over p s t = ([], s) := if_neg h
theorem over_on {p : Policy} {s : Run} {t : Nat} (h : p.way = 2 ∧ s.fresh ≠ 0 ∧ s.last + p.gap ≤ t) : over p s t = ([⟨s.fresh, s.last + p.gap⟩], { s with fresh := 0 }) := if_pos h
theorem over_down (p : Policy) (s : Run) (t : Nat) : (over p s t).2.down = s.down := by
  unfold over
  split <;> rfl
theorem over_over {p : Policy} {s : Run} {t t' : Nat} (h : t ≤ t') : over p s t' = ((over p s t).1 ++ (over p (over p s t).2 t').1, (over p (over p s t).2 t').2) := by
  by_cases c : p.way = 2 ∧ s.fresh ≠ 0 ∧ s.last + p.gap ≤ t
  · have c' : p.way = 2 ∧ s.fresh ≠ 0 ∧ s.last + p.gap ≤ t' := ⟨c.1, c.2.1, by omega⟩
    rw [over_on c, over_on c']
    have n : ¬ (p.way = 2 ∧ ({ s with fresh := 0 } : Run).fresh ≠ 0 ∧ ({ s with fresh := 0 } : Run).last + p.gap ≤ t') := fun z => z.2.1 rfl
    rw [over_off n]
    rfl
  · rw [over_off c]
    simp
/-- what an event does behind what time does -/
def aft (p : Policy) (s : Run) (e : Event) : List Stroke × Run :=
  if e.down = true then ([], { down := joined s.down (bit e.key), fresh := joined s.fresh (bit e.key), last := e.tick })
  else
    let d := s.down - bit e.key
    if p.way = 0 then (if d = 0 ∧ s.fresh ≠ 0 then ([⟨s.fresh, e.tick⟩], { s with down := d, fresh := 0 }) else ([], { s with down := d }))
    else if p.way = 1 then (if s.fresh ≠ 0 then ([⟨s.down, e.tick⟩], { s with down := d, fresh := 0 }) else ([], { s with down := d }))
    else ([], { s with down := d })
theorem taken_eq (p : Policy) (s : Run) (e : Event) : taken p s e = ((over p s e.tick).1 ++ (aft p (over p s e.tick).2 e).1, (aft p (over p s e.tick).2 e).2) := by
  unfold taken aft
  dsimp only
  split
  · simp
  · split
    · split <;> simp
    · split
      · split <;> simp
      · simp

/-- a row of strokes, and those that time makes up to a tick -/
def fin (p : Policy) (t : Nat) (y : List Stroke × Run) : List Stroke × Run := (y.1 ++ (over p y.2 t).1, (over p y.2 t).2)
def pre (o : List Stroke) (y : List Stroke × Run) : List Stroke × Run := (o ++ y.1, y.2)
theorem pre_pre (a b : List Stroke) (y : List Stroke × Run) : pre a (pre b y) = pre (a ++ b) y := by
  unfold pre
  rw [List.append_assoc]
theorem pre_nil (y : List Stroke × Run) : pre [] y = y := rfl
theorem fin_pre (p : Policy) (t : Nat) (o : List Stroke) (y : List Stroke × Run) : fin p t (pre o y) = pre o (fin p t y) := by
  unfold fin pre
  rw [List.append_assoc]
theorem runs_cons (p : Policy) (s : Run) (e : Event) (r : List Event) : runs p s (e :: r) = pre (taken p s e).1 (runs p (taken p s e).2 r) := rfl
theorem runs_append (p : Policy) : ∀ (B D : List Event) (s : Run), runs p s (B ++ D) = pre (runs p s B).1 (runs p (runs p s B).2 D)
  | [], _, _ => rfl
  | e :: r, D, s => by
    rw [List.cons_append, runs_cons, runs_append p r D, pre_pre, runs_cons]
    rfl

/-- time that's over ahead of all that comes may be seen at once -/
theorem fin_over {p : Policy} {t T : Nat} : ∀ (B : List Event) (s : Run), (∀ e ∈ B, t ≤ e.tick) → t ≤ T →
    fin p T (runs p s B) = pre (over p s t).1 (fin p T (runs p (over p s t).2 B))
  | [], s, _, hT => by
    show ([] ++ (over p s T).1, (over p s T).2) = _
    rw [over_over hT]
    rfl
  | e :: r, s, hB, _ => by
    have ht : t ≤ e.tick := hB e List.mem_cons_self
    rw [runs_cons, runs_cons, fin_pre, fin_pre, pre_pre, taken_eq p s e, taken_eq p (over p s t).2 e, over_over ht]
    simp only [List.append_assoc]

/-! ### the program's own step -/
def plift (p : Policy) (s : Run) (e : Event) : List Stroke × Run :=
  if p.way = 0 ∧ s.down ^^^ 2 ^ e.key = 0 then ([⟨s.fresh, e.tick⟩], { s with down := s.down ^^^ 2 ^ e.key, fresh := 0 })
  else if p.way = 1 ∧ s.fresh ≠ 0 then ([⟨s.down, e.tick⟩], { s with down := s.down ^^^ 2 ^ e.key, fresh := 0 })
  else ([], { s with down := s.down ^^^ 2 ^ e.key })
def ptaken (p : Policy) (s : Run) (e : Event) : List Stroke × Run := if e.down = true then taken p s e else plift p s e
def pruns (p : Policy) : Run → List Event → List Stroke × Run
  | s, [] => ([], s)
  | s, e :: r => pre (ptaken p s e).1 (pruns p (ptaken p s e).2 r)

/-- all up: a key that's down has gone down since the last stroke -/
def FreshOk (p : Policy) (s : Run) : Prop := p.way = 0 → ∀ j, s.down.testBit j = true → s.fresh.testBit j = true

theorem testBit_joined (a k j : Nat) : (joined a (bit k)).testBit j = if j = k then true else a.testBit j := by
  unfold joined bit
  rw [Nat.testBit_or, Nat.testBit_two_pow]
  by_cases c : j = k
  · subst c
    simp
  · have : ¬ k = j := fun z => c z.symm
    simp [c, this]
theorem taken_down (p : Policy) (s : Run) (e : Event) (d : e.down = true) : taken p s e = ((over p s e.tick).1, { down := joined s.down (bit e.key), fresh := joined (over p s e.tick).2.fresh (bit e.key), last := e.tick }) := by
  unfold taken
  dsimp only
  rw [if_pos d, over_down]
theorem bits_taken {p : Policy} {s : Run} {e : Event} (a : s.down.testBit e.key ≠ e.down) (j : Nat) : (taken p s e).2.down.testBit j = if j = e.key then e.down else s.down.testBit j := by
  by_cases d : e.down = true
  · rw [taken_down p s e d, d]
    exact testBit_joined _ _ _
  · have hd : (taken p s e).2.down = s.down - bit e.key := by
      rw [taken_eq]
      unfold aft
      rw [if_neg d]
      dsimp only
      rw [over_down]
      split
      · split <;> rfl
      · split
        · split <;> rfl
        · rfl
    rw [hd]
    have := testBit_turnKey a j
    unfold turnKey at this
    rw [if_neg d] at this
    exact this
theorem fresh_taken {p : Policy} {s : Run} {e : Event} (a : s.down.testBit e.key ≠ e.down) (f : FreshOk p s) : FreshOk p (taken p s e).2 := by
  intro w j hj
  have o : over p s e.tick = ([], s) := over_off fun z => by omega
  have hb := bits_taken (p := p) a j
  by_cases d : e.down = true
  · rw [taken_down p s e d, o] at hj ⊢
    show (joined s.fresh (bit e.key)).testBit j = true
    rw [testBit_joined]
    have hj' : (joined s.down (bit e.key)).testBit j = true := hj
    rw [testBit_joined] at hj'
    split
    · rfl
    · rename_i c
      rw [if_neg c] at hj'
      exact f w j hj'
  · have old : s.down.testBit j = true := by
      rw [hb] at hj
      split at hj
      · exact absurd hj d
      · exact hj
    rw [taken_eq, o] at hj ⊢
    unfold aft at hj ⊢
    rw [if_neg d] at hj ⊢
    dsimp only at hj ⊢
    rw [if_pos w] at hj ⊢
    by_cases c : s.down - bit e.key = 0 ∧ s.fresh ≠ 0
    · rw [if_pos c] at hj
      have hj' : (s.down - bit e.key).testBit j = true := hj
      rw [c.1] at hj'
      simp at hj'
    · rw [if_neg c] at hj ⊢
      exact f w j old
theorem taken_up {p : Policy} {s : Run} {e : Event} (d : ¬ e.down = true) (a : s.down.testBit e.key ≠ e.down) (f : FreshOk p s) (w : p.way ≠ 2) : taken p s e = plift p s e := by
  have o : over p s e.tick = ([], s) := over_off fun z => by omega
  have df : e.down = false := by
    cases h : e.down
    · rfl
    · exact absurd h d
  have on : s.down.testBit e.key = true := by
    rw [df] at a
    cases h : s.down.testBit e.key
    · exact absurd h a
    · rfl
  have x : s.down - bit e.key = s.down ^^^ 2 ^ e.key := (xor_bit_true _ _ on).symm
  rw [taken_eq, o]
  unfold aft plift
  rw [if_neg d]
  dsimp only
  rw [x, List.nil_append]
  by_cases w0 : p.way = 0
  · rw [if_pos w0]
    have nz : s.fresh ≠ 0 := by
      intro z
      have := f w0 _ on
      rw [z] at this
      simp at this
    by_cases c : s.down ^^^ 2 ^ e.key = 0
    · rw [if_pos ⟨c, nz⟩, if_pos ⟨w0, c⟩]
    · rw [if_neg (fun z => c z.1), if_neg (fun z => c z.2), if_neg (fun z => by omega)]
  · rw [if_neg w0, if_neg (show ¬ (p.way = 0 ∧ s.down ^^^ 2 ^ e.key = 0) from fun z => w0 z.1)]
    by_cases w1 : p.way = 1
    · rw [if_pos w1]
      by_cases c : s.fresh ≠ 0
      · rw [if_pos c, if_pos ⟨w1, c⟩]
      · rw [if_neg c, if_neg (show ¬ (p.way = 1 ∧ s.fresh ≠ 0) from fun z => c z.2)]
    · rw [if_neg w1, if_neg (show ¬ (p.way = 1 ∧ s.fresh ≠ 0) from fun z => w1 z.1)]

/-- the program's strokes, up to a tick that none of the news passes, are the model's -/
theorem pruns_is {p : Policy} {T : Nat} : ∀ (B : List Event) (s : Run), Alt s.down.testBit B → FreshOk p s → B.Pairwise (fun a b => a.tick ≤ b.tick) → (∀ e ∈ B, e.tick ≤ T) →
    fin p T (pruns p s B) = fin p T (runs p s B)
  | [], _, _, _, _, _ => rfl
  | e :: r, s, ⟨a, al⟩, f, so, hT => by
    have so' := List.pairwise_cons.mp so
    have hT' : ∀ x ∈ r, x.tick ≤ T := fun x hx => hT x (List.mem_cons_of_mem _ hx)
    show fin p T (pre (ptaken p s e).1 (pruns p (ptaken p s e).2 r)) = fin p T (pre (taken p s e).1 (runs p (taken p s e).2 r))
    have same : ptaken p s e = taken p s e → fin p T (pre (ptaken p s e).1 (pruns p (ptaken p s e).2 r)) = fin p T (pre (taken p s e).1 (runs p (taken p s e).2 r)) := by
      intro h
      rw [h, fin_pre, fin_pre, pruns_is r _ (alt_congr r (fun j => (bits_taken a j).symm) al) (fresh_taken a f) so'.2 hT']
    by_cases d : e.down = true
    · exact same (if_pos d)
    · by_cases w : p.way = 2
      · have df : e.down = false := by
          cases h : e.down
          · rfl
          · exact absurd h d
        have on : s.down.testBit e.key = true := by
          rw [df] at a
          cases h : s.down.testBit e.key
          · exact absurd h a
          · rfl
        have x : s.down - bit e.key = s.down ^^^ 2 ^ e.key := (xor_bit_true _ _ on).symm
        have p1 : ptaken p s e = ([], { s with down := s.down ^^^ 2 ^ e.key }) := by
          unfold ptaken plift
          rw [if_neg d, if_neg (fun z => by omega), if_neg (fun z => by omega)]
        have t1 : taken p s e = ((over p s e.tick).1, { (over p s e.tick).2 with down := s.down ^^^ 2 ^ e.key }) := by
          rw [taken_eq]
          unfold aft
          rw [if_neg d]
          dsimp only
          rw [if_neg (by omega), if_neg (by omega), over_down, x]
          simp
        have o1 : over p { s with down := s.down ^^^ 2 ^ e.key } e.tick = ((over p s e.tick).1, { (over p s e.tick).2 with down := s.down ^^^ 2 ^ e.key }) := by
          unfold over
          dsimp only
          split <;> rfl
        have al' : Alt (s.down ^^^ 2 ^ e.key).testBit r := by
          refine alt_congr r (fun j => ?_) al
          rw [← x]
          have := testBit_turnKey a j
          unfold turnKey at this
          rw [if_neg d] at this
          exact this.symm
        rw [p1, t1, fin_pre, fin_pre]
        show pre [] (fin p T (pruns p { s with down := s.down ^^^ 2 ^ e.key } r)) = pre (over p s e.tick).1 (fin p T (runs p { (over p s e.tick).2 with down := s.down ^^^ 2 ^ e.key } r))
        rw [pre_nil, pruns_is r { s with down := s.down ^^^ 2 ^ e.key } al' (fun w0 => by omega) so'.2 hT', fin_over r _ so'.1 (hT e List.mem_cons_self), o1]
      · refine same ?_
        rw [taken_up d a f w]
        exact if_neg d

/-! ### the believed rows take turns, too -/
def gAfter : (Nat → Bool) → List Event → (Nat → Bool)
  | g, [] => g
  | g, e :: r => gAfter (fun j => if j = e.key then e.down else g j) r
theorem alt_append : ∀ (B D : List Event) (g : Nat → Bool), Alt g (B ++ D) → Alt g B ∧ Alt (gAfter g B) D
  | [], _, _, h => ⟨trivial, h⟩
  | e :: r, D, g, ⟨a, al⟩ => ⟨⟨a, (alt_append r D _ al).1⟩, (alt_append r D _ al).2⟩
theorem gAfter_congr : ∀ (C : List Event) {g g' : Nat → Bool}, (∀ j, g j = g' j) → ∀ j, gAfter g C j = gAfter g' C j
  | [], _, _, h, j => h j
  | e :: r, g, g', h, j => gAfter_congr r (fun i => by
      by_cases c : i = e.key
      · rw [if_pos c, if_pos c]
      · rw [if_neg c, if_neg c]
        exact h i) j
theorem runs_bits {p : Policy} : ∀ (B : List Event) (s : Run), Alt s.down.testBit B → FreshOk p s → (∀ j, (runs p s B).2.down.testBit j = gAfter s.down.testBit B j) ∧ FreshOk p (runs p s B).2
  | [], _, _, f => ⟨fun _ => rfl, f⟩
  | e :: r, s, ⟨a, al⟩, f => by
    have ih := runs_bits r (taken p s e).2 (alt_congr r (fun j => (bits_taken a j).symm) al) (fresh_taken a f)
    refine ⟨fun j => ?_, ih.2⟩
    show (runs p (taken p s e).2 r).2.down.testBit j = _
    rw [ih.1 j]
    exact gAfter_congr r (fun i => bits_taken a i) j

/-- the believed ones of changes that take turns take turns: a key whose next event is a down that's not believed is held to be down still -/
theorem alt_sieve (b now : Nat) : ∀ (C : List Event) (u : Ups) (g g' : Nat → Bool), Alt g C →
    (∀ k, g' k = (g k || (match nextOf k (tagC b u C) with
      | some x => x.2
      | none => false))) → Alt g' (sieve b now (tagC b u C)).1
  | [], _, _, _, _, _ => trivial
  | e :: r, u, g, g', ⟨a, al⟩, h => by
    have hk := h e.key
    rw [tagC_cons, nextOf_cons_eq (k := e.key) (x := (e, soon b u e)) rfl] at hk
    have ho : ∀ k, ¬ k = e.key → g' k = (g k || (match nextOf k (tagC b (nextUps u e) r) with
      | some x => x.2
      | none => false)) := by
      intro k ck
      have := h k
      rw [tagC_cons, nextOf_cons_ne (x := (e, soon b u e)) (fun z => ck z.symm)] at this
      exact this
    have put : ∀ v : Bool, (v = (e.down || (match nextOf e.key (tagC b (nextUps u e) r) with
      | some x => x.2
      | none => false))) → ∀ k, (fun j => if j = e.key then v else g' j) k = ((fun j => if j = e.key then e.down else g j) k || (match nextOf k (tagC b (nextUps u e) r) with
      | some x => x.2
      | none => false)) := by
      intro v hv k
      by_cases ck : k = e.key
      · subst ck
        simp only [if_true]
        exact hv
      · simp only [if_neg ck]
        exact ho k ck
    have keep : (g' e.key = (e.down || (match nextOf e.key (tagC b (nextUps u e) r) with
      | some x => x.2
      | none => false))) → Alt g' (sieve b now (tagC b (nextUps u e) r)).1 := by
      intro hv
      refine alt_sieve b now r (nextUps u e) _ g' al (fun k => ?_)
      have := put (g' e.key) hv k
      by_cases ck : k = e.key
      · subst ck
        simp only [if_true] at this ⊢
        exact this
      · simp only [if_neg ck] at this ⊢
        exact this
    have step : (g' e.key ≠ e.down) → (e.down = (e.down || (match nextOf e.key (tagC b (nextUps u e) r) with
      | some x => x.2
      | none => false))) → Alt g' (e :: (sieve b now (tagC b (nextUps u e) r)).1) := by
      intro h1 h2
      exact ⟨h1, alt_sieve b now r (nextUps u e) _ _ al (put e.down h2)⟩
    rw [tagC_cons]
    unfold sieve
    by_cases d : e.down = true
    · rw [if_pos d]
      have g0 : g e.key = false := by
        cases q : g e.key
        · rfl
        · rw [q, d] at a
          exact absurd rfl a
      rw [g0] at hk
      by_cases s : soon b u e = true
      · rw [if_pos s]
        refine keep ?_
        rw [hk, d]
        exact s
      · rw [if_neg s]
        refine step ?_ (by rw [d]; rfl)
        rw [hk, d]
        exact s
    · rw [if_neg d]
      have df : e.down = false := by
        cases q : e.down
        · rfl
        · exact absurd q d
      have g1 : g e.key = true := by
        cases q : g e.key
        · rw [q, df] at a
          exact absurd rfl a
        · rfl
      rw [g1] at hk
      have hk1 : g' e.key = true := hk
      cases hx : nextOf e.key (tagC b (nextUps u e) r) with
      | none =>
        simp only [hx] at keep step ⊢
        by_cases w : now < e.tick + b
        · rw [if_pos w]
          trivial
        · rw [if_neg w]
          exact step (by rw [hk1, df]; decide) (by rw [df]; rfl)
      | some x =>
        simp only [hx] at keep step ⊢
        by_cases s : x.2 = true
        · rw [if_pos s]
          exact keep (by rw [hk1, df, s]; rfl)
        · have sf : x.2 = false := by
            cases q : x.2
            · rfl
            · exact absurd q s
          rw [if_neg s]
          exact step (by rw [hk1, df]; decide) (by rw [df, sf]; rfl)

/-! ### rows in order -/
theorem changes_sub : ∀ (l : List Event) (h : Nat), (changes h l).Sublist l
  | [], _ => List.Sublist.slnil
  | e :: r, h => by
    by_cases c : h.testBit e.key = e.down
    · rw [changes_cons_same c]
      exact (changes_sub r h).cons e
    · rw [changes_cons_turn c]
      exact (changes_sub r _).cons_cons e
theorem sieve_sub (b now : Nat) : ∀ (T : List Tc), ((sieve b now T).1 ++ (sieve b now T).2.map (fun x => x.1)).Sublist (T.map fun x => x.1)
  | [] => List.Sublist.slnil
  | (e, s) :: r => by
    have ih := sieve_sub b now r
    unfold sieve
    split
    · split
      · exact ih.cons e
      · exact ih.cons_cons e
    · split
      · split
        · exact ih.cons e
        · exact ih.cons_cons e
      · split
        · exact List.Sublist.refl _
        · exact ih.cons_cons e
end Kx

-- XFeed
/-! A feed: what the program keeps is a function of all news; one feed more brings it on, and tells what the model tells. -/
namespace Kx
open Cd CdKeys

structure NewsM where
  pressed : Nat
  ups : Ups
  waits : List Tc
  run : Run
def sv (p : Policy) (l : List Event) (now : Nat) : List Event × List Tc := sieve p.bounce now (tagC p.bounce noUps (changes 0 l))
def newsM (p : Policy) (l : List Event) (now : Nat) : NewsM :=
  ⟨heldBy l, lastUps noUps (changes 0 l), (sv p l now).2, (fin p (reachOf now (sv p l now).2) (runs p resting (sv p l now).1)).2⟩
/-- the program's feed -/
def come (p : Policy) (m : NewsM) (now : Nat) (l : List Event) : Option (List Stroke × NewsM) :=
  let c := chIn p.bounce m.pressed m.ups l
  let z := sieve p.bounce now (m.waits ++ c.1)
  if 1024 < z.2.length then none
  else
    let y := fin p (reachOf now z.2) (pruns p m.run z.1)
    some (y.1, ⟨c.2.1, c.2.2, z.2, y.2⟩)

theorem sift_sv (p : Policy) (l : List Event) (now : Nat) : sift p.bounce now [] (changes 0 l) = ((sv p l now).1, (reachOf now (sv p l now).2, (sv p l now).2.map (fun x => x.1))) :=
  sift_is p.bounce now (changes 0 l) [] noUps _ (alt_changes l 0) (con_start _ _ _ (alt_changes l 0))
theorem strokes_sv (p : Policy) (l : List Event) (now : Nat) : strokesOf p l now = (fin p (reachOf now (sv p l now).2) (runs p resting (sv p l now).1)).1 := by
  unfold strokesOf
  rw [sift_sv]
  rfl
theorem waiting_sv (p : Policy) (l : List Event) (now : Nat) : (waiting p l now).length = (sv p l now).2.length := by
  unfold waiting
  rw [sift_sv, List.length_map]

/-- news in order, none past now -/
def Ordered (l : List Event) (now : Nat) : Prop := l.Pairwise (fun a b => a.tick ≤ b.tick) ∧ ∀ e ∈ l, e.tick ≤ now
theorem comes_spec (size : Nat) : ∀ (l : List Event) (f now : Nat), comes size f now l = true →
    f ≤ now ∧ now < CLOCK ∧ (∀ e ∈ l, f ≤ e.tick ∧ e.tick ≤ now ∧ e.key < size) ∧ l.Pairwise (fun a b => a.tick ≤ b.tick)
  | [], f, now, h => by
    have h' : (decide (f ≤ now) && decide (now < CLOCK)) = true := h
    rw [Bool.and_eq_true, decide_eq_true_eq, decide_eq_true_eq] at h'
    exact ⟨h'.1, h'.2, fun e he => (by cases he), List.Pairwise.nil⟩
  | e :: r, f, now, h => by
    have h' : (decide (f ≤ e.tick) && (decide (e.tick ≤ now) && (decide (e.key < size) && comes size e.tick now r))) = true := h
    rw [Bool.and_eq_true, Bool.and_eq_true, Bool.and_eq_true, decide_eq_true_eq, decide_eq_true_eq, decide_eq_true_eq] at h'
    obtain ⟨h1, h2, h3, h4⟩ := h'
    obtain ⟨i1, i2, i3, i4⟩ := comes_spec size r e.tick now h4
    refine ⟨by omega, i2, fun x hx => ?_, List.pairwise_cons.mpr ⟨fun x hx => (i3 x hx).1, i4⟩⟩
    rcases List.mem_cons.mp hx with q | q
    · subst q
      exact ⟨h1, h2, h3⟩
    · have := i3 x q
      exact ⟨by omega, this.2⟩
theorem ordered_append {l l' : List Event} {now now' : Nat} (o : Ordered l now) (h : now ≤ now') (h1 : ∀ e ∈ l', now ≤ e.tick ∧ e.tick ≤ now') (h2 : l'.Pairwise (fun a b => a.tick ≤ b.tick)) : Ordered (l ++ l') now' := by
  refine ⟨List.pairwise_append.mpr ⟨o.1, h2, fun a ha b hb => ?_⟩, fun e he => ?_⟩
  · have := o.2 a ha
    have := (h1 b hb).1
    omega
  · rcases List.mem_append.mp he with q | q
    · have := o.2 e q
      omega
    · exact (h1 e q).2

theorem sv_append (p : Policy) (l l' : List Event) (now now' : Nat) (h : now ≤ now') (hD : ∀ e ∈ l', now ≤ e.tick) :
    sv p (l ++ l') now' = ((sv p l now).1 ++ (sieve p.bounce now' ((sv p l now).2 ++ tagC p.bounce (lastUps noUps (changes 0 l)) (changes (heldBy l) l'))).1,
      (sieve p.bounce now' ((sv p l now).2 ++ tagC p.bounce (lastUps noUps (changes 0 l)) (changes (heldBy l) l'))).2) := by
  unfold sv
  rw [changes_append l l' 0, heldBy_eq]
  refine sieve_more p.bounce now now' h (changes 0 l) (changes (heldOn 0 (changes 0 l)) l') noUps (fun j => Nat.testBit 0 j) ?_ fun d hd => hD d ((changes_sub _ _).subset hd)
  rw [← changes_append]
  exact alt_changes (l ++ l') 0

theorem reach_le {p : Policy} {l : List Event} {now : Nat} (o : Ordered l now) : reachOf now (sv p l now).2 ≤ now := by
  have sub := sieve_sub p.bounce now (tagC p.bounce noUps (changes 0 l))
  rw [tagC_fst] at sub
  cases h : (sv p l now).2 with
  | nil => exact Nat.le_refl _
  | cons x r =>
    have hx : x.1 ∈ l := (changes_sub l 0).subset (sub.subset (List.mem_append_right _ (by
      show x.1 ∈ (sv p l now).2.map (fun x => x.1)
      rw [h]
      exact List.mem_cons_self)))
    exact o.2 _ hx

theorem come_is (p : Policy) (size : Nat) (l l' : List Event) (now now' : Nat) (o : Ordered l now) (hc : comes size now now' l' = true) :
    come p (newsM p l now) now' l' = if KeysCalls.WAIT < (waiting p (l ++ l') now').length then none
      else some ((strokesOf p (l ++ l') now').drop (strokesOf p l now).length, newsM p (l ++ l') now') := by
  obtain ⟨hn, _, hl, so⟩ := comes_spec size l' now now' hc
  have o' : Ordered (l ++ l') now' := ordered_append o hn (fun e he => ⟨(hl e he).1, (hl e he).2.1⟩) so
  have app := sv_append p l l' now now' hn (fun e he => (hl e he).1)
  unfold come
  rw [waiting_sv]
  dsimp only
  have c1 : chIn p.bounce (newsM p l now).pressed (newsM p l now).ups l' = (tagC p.bounce (lastUps noUps (changes 0 l)) (changes (heldBy l) l'), (heldOn (heldBy l) (changes (heldBy l) l'), lastUps (lastUps noUps (changes 0 l)) (changes (heldBy l) l'))) := chIn_is _ _ _ _
  rw [c1]
  dsimp only
  show (if 1024 < (sieve p.bounce now' ((sv p l now).2 ++ tagC p.bounce (lastUps noUps (changes 0 l)) (changes (heldBy l) l'))).2.length then none else _) = _
  rw [app]
  dsimp only
  show (if 1024 < _ then none else _) = (if 1024 < _ then none else _)
  by_cases big : 1024 < (sieve p.bounce now' ((sv p l now).2 ++ tagC p.bounce (lastUps noUps (changes 0 l)) (changes (heldBy l) l'))).2.length
  · exact (if_pos big).trans (Eq.symm (if_pos big))
  · refine Eq.trans (if_neg big) (Eq.trans ?_ (Eq.symm (if_neg big)))
    -- names
    generalize hz : sieve p.bounce now' ((sv p l now).2 ++ tagC p.bounce (lastUps noUps (changes 0 l)) (changes (heldBy l) l')) = z at app
    generalize hB : (sv p l now).1 = B at app
    generalize hW : (sv p l now).2 = W at hz app
    -- order
    have sub := sieve_sub p.bounce now' (tagC p.bounce noUps (changes 0 (l ++ l')))
    rw [tagC_fst] at sub
    have sub' : (B ++ z.1 ++ z.2.map (fun x => x.1)).Sublist (l ++ l') := by
      have e : sieve p.bounce now' (tagC p.bounce noUps (changes 0 (l ++ l'))) = (B ++ z.1, z.2) := app
      rw [e] at sub
      exact sub.trans (changes_sub _ _)
    have pw := o'.1.sublist sub'
    have le' : ∀ x ∈ B ++ z.1 ++ z.2.map (fun x => x.1), x.tick ≤ now' := fun x hx => o'.2 x (sub'.subset hx)
    have zsub := sieve_sub p.bounce now' (W ++ tagC p.bounce (lastUps noUps (changes 0 l)) (changes (heldBy l) l'))
    rw [hz, List.map_append, tagC_fst] at zsub
    -- all that comes is behind the tick reached
    have t1 : ∀ x ∈ W.map (fun x => x.1) ++ changes (heldBy l) l', reachOf now W ≤ x.tick := by
      have sub0 := sieve_sub p.bounce now (tagC p.bounce noUps (changes 0 l))
      rw [tagC_fst] at sub0
      have e0 : sieve p.bounce now (tagC p.bounce noUps (changes 0 l)) = (B, W) := Prod.ext hB hW
      rw [e0] at sub0
      have pw0 := (o.1.sublist (sub0.trans (changes_sub _ _)))
      have pwW := (List.pairwise_append.mp pw0).2.1
      have rl : reachOf now W ≤ now := by
        have := reach_le (p := p) o
        rw [hW] at this
        exact this
      intro x hx
      rcases List.mem_append.mp hx with q | q
      · cases W with
        | nil => cases q
        | cons w r =>
          rcases List.mem_cons.mp q with q | q
          · subst q
            exact Nat.le_refl _
          · exact (List.pairwise_cons.mp pwW).1 x q
      · have := (hl x ((changes_sub _ _).subset q)).1
        omega
    have t2 : ∀ x ∈ z.1, reachOf now W ≤ x.tick := fun x hx => t1 x (zsub.subset (List.mem_append_left _ hx))
    have t3 : reachOf now W ≤ reachOf now' z.2 := by
      cases hz2 : z.2 with
      | nil =>
        have := reach_le (p := p) o
        rw [hW] at this
        show reachOf now W ≤ now'
        omega
      | cons w r => exact t1 w.1 (zsub.subset (List.mem_append_right _ (by rw [hz2]; exact List.mem_cons_self)))
    have t4 : ∀ x ∈ z.1, x.tick ≤ reachOf now' z.2 := by
      intro x hx
      cases hz2 : z.2 with
      | nil => exact le' x (List.mem_append_left _ (List.mem_append_right _ hx))
      | cons w r =>
        have := (List.pairwise_append.mp pw).2.2 x (List.mem_append_right _ hx) w.1 (by rw [hz2]; exact List.mem_cons_self)
        exact this
    have pwz : z.1.Pairwise (fun a b => a.tick ≤ b.tick) := (List.pairwise_append.mp (List.pairwise_append.mp pw).1).2.1
    -- turns
    have alB : Alt (fun j => Nat.testBit 0 j) (B ++ z.1) := by
      have e : sieve p.bounce now' (tagC p.bounce noUps (changes 0 (l ++ l'))) = (B ++ z.1, z.2) := app
      have := alt_sieve p.bounce now' (changes 0 (l ++ l')) noUps (fun j => Nat.testBit 0 j) (fun j => Nat.testBit 0 j) (alt_changes (l ++ l') 0) (fun k => by
        cases hx : nextOf k (tagC p.bounce noUps (changes 0 (l ++ l'))) with
        | none => simp
        | some x =>
          have q := next_alt p.bounce k _ noUps _ x (alt_changes (l ++ l') 0) hx
          have : x.2 = false := by
            rw [q.2.2]
            simp [noUps]
          simp [this])
      rw [e] at this
      exact this
    obtain ⟨al1, al2⟩ := alt_append B z.1 _ alB
    have fr : FreshOk p resting := fun _ j hj => by
      have : (0 : Nat).testBit j = true := hj
      simp at this
    obtain ⟨rb, rf⟩ := runs_bits (p := p) B resting al1 fr
    -- the strokes
    have run0 : (newsM p l now).run = (over p (runs p resting B).2 (reachOf now W)).2 := by
      show (fin p (reachOf now (sv p l now).2) (runs p resting (sv p l now).1)).2 = _
      rw [hW, hB]
      rfl
    have al3 : Alt (newsM p l now).run.down.testBit z.1 := by
      rw [run0, over_down]
      exact alt_congr _ (fun j => (rb j).symm) al2
    have fr3 : FreshOk p (newsM p l now).run := by
      rw [run0]
      intro w j hj
      have off : over p (runs p resting B).2 (reachOf now W) = ([], (runs p resting B).2) := over_off fun z => by omega
      rw [off] at hj ⊢
      exact rf w j hj
    have st0 : strokesOf p l now = (runs p resting B).1 ++ (over p (runs p resting B).2 (reachOf now W)).1 := by
      rw [strokes_sv, hW, hB]
      rfl
    have all : fin p (reachOf now' z.2) (runs p resting (B ++ z.1)) = pre (strokesOf p l now) (fin p (reachOf now' z.2) (pruns p (newsM p l now).run z.1)) := by
      rw [pruns_is z.1 _ al3 fr3 pwz t4, runs_append, fin_pre, fin_over z.1 _ t2 t3, pre_pre, ← st0, ← run0]
    have e1 : strokesOf p (l ++ l') now' = strokesOf p l now ++ (fin p (reachOf now' z.2) (pruns p (newsM p l now).run z.1)).1 := by
      rw [strokes_sv, app]
      exact congrArg Prod.fst all
    have e2 : newsM p (l ++ l') now' = ⟨heldOn (heldBy l) (changes (heldBy l) l'), lastUps (lastUps noUps (changes 0 l)) (changes (heldBy l) l'), z.2, (fin p (reachOf now' z.2) (pruns p (newsM p l now).run z.1)).2⟩ := by
      unfold newsM
      have r : (fin p (reachOf now' (sv p (l ++ l') now').2) (runs p resting (sv p (l ++ l') now').1)).2 = (fin p (reachOf now' z.2) (pruns p (newsM p l now).run z.1)).2 := by
        rw [app]
        have q := congrArg Prod.snd all
        exact q
      rw [r, app]
      have c : changes 0 (l ++ l') = changes 0 l ++ changes (heldBy l) l' := by
        rw [changes_append, heldBy_eq]
      rw [heldBy_eq (l ++ l'), c, heldOn_append, lastUps_append, ← heldBy_eq]
      rfl
    have hw : (newsM p l now).waits = W := hW
    rw [e1, e2, List.drop_left, hw, hz]

theorem newsM_nil (p : Policy) (now : Nat) : newsM p [] now = ⟨0, noUps, [], resting⟩ := by
  have o : over p resting now = ([], resting) := over_off fun z => z.2.1 rfl
  show (⟨heldBy [], noUps, [], (over p resting now).2⟩ : NewsM) = _
  rw [o]
  rfl
theorem strokes_nil (p : Policy) (now : Nat) : strokesOf p [] now = [] := by
  have o : over p resting now = ([], resting) := over_off fun z => z.2.1 rfl
  show [] ++ (over p resting now).1 = _
  rw [o]
  rfl

/-! ### the fates, from the end: what the program reckons -/
/-- 0: believed; 1: it bounced; 2: unsure -/
def fateD (b now : Nat) (r : List Tc) (x : Tc) : Nat :=
  if x.1.down = true then (if x.2 = true then 1 else 0)
  else match nextOf x.1.key r with
    | some y => if y.2 = true then 1 else 0
    | none => if now < x.1.tick + b then 2 else 0
def fates (b now : Nat) : List Tc → List Nat
  | [] => []
  | x :: r => fateD b now r x :: fates b now r
theorem fates_length (b now : Nat) : ∀ (T : List Tc), (fates b now T).length = T.length
  | [] => rfl
  | _ :: r => congrArg (· + 1) (fates_length b now r)
/-- how many stand ahead of the first unsure one -/
def sure (b now : Nat) : List Tc → Nat
  | [] => 0
  | x :: r => if fateD b now r x = 2 then 0 else sure b now r + 1
theorem sure_le (b now : Nat) : ∀ (T : List Tc), sure b now T ≤ T.length
  | [] => Nat.le_refl _
  | x :: r => by
    unfold sure
    split
    · exact Nat.zero_le _
    · exact Nat.succ_le_succ (sure_le b now r)
/-- the believed ones among the first -/
def believed : List Tc → List Nat → List Event
  | x :: r, f :: s => if f = 0 then x.1 :: believed r s else believed r s
  | _, _ => []
/-- one change: unsure and it ends; else as its fate says -/
theorem sieve_fate (b now : Nat) (x : Tc) (r : List Tc) : sieve b now (x :: r) = if fateD b now r x = 2 then ([], x :: r)
    else if fateD b now r x = 0 then (x.1 :: (sieve b now r).1, (sieve b now r).2) else sieve b now r := by
  obtain ⟨e, s⟩ := x
  conv => lhs; unfold sieve
  unfold fateD
  dsimp only
  by_cases d : e.down = true
  · rw [if_pos d, if_pos d]
    by_cases h : s = true
    · rw [if_pos h, if_pos h]
      rfl
    · rw [if_neg h, if_neg h]
      rfl
  · rw [if_neg d, if_neg d]
    cases hx : nextOf e.key r with
    | none =>
      dsimp only
      by_cases h : now < e.tick + b
      · rw [if_pos h, if_pos h]
        rfl
      · rw [if_neg h, if_neg h]
        rfl
    | some y =>
      by_cases h : y.2 = true
      · simp [h]
      · simp [h]
theorem sieve_waits (b now : Nat) : ∀ (T : List Tc), (sieve b now T).2 = T.drop (sure b now T)
  | [] => rfl
  | x :: r => by
    have ih := sieve_waits b now r
    rw [sieve_fate]
    unfold sure
    split
    · rfl
    · rw [List.drop_succ_cons]
      split
      · exact ih
      · exact ih
theorem sieve_believed (b now : Nat) : ∀ (T : List Tc), (sieve b now T).1 = believed (T.take (sure b now T)) (fates b now T)
  | [] => rfl
  | x :: r => by
    have ih := sieve_believed b now r
    have hf : fates b now (x :: r) = fateD b now r x :: fates b now r := rfl
    rw [sieve_fate, hf]
    unfold sure
    split
    · rfl
    · rw [List.take_succ_cons]
      show _ = (if fateD b now r x = 0 then x.1 :: believed (List.take (sure b now r) r) (fates b now r) else believed (List.take (sure b now r) r) (fates b now r))
      split
      · rw [ih]
      · exact ih
end Kx

-- XText
/-! A chord written: key by key, as the program does it, against the document's model, which writes bank by bank. -/
namespace Kx
open CdKeys

def kDig (k : Keyboard) (i : Nat) : Nat := (k.digitOf i).getD 0
/-- a key's mark, in bytes -/
def markB (k : Keyboard) (d : Bool) (i : Nat) : List Nat :=
  if (d && !decide (kDig k i = 0)) = true then [kDig k i] else if (!(d && (k.bar && decide (i = 0)))) = true then (Cd.utf8 (k.labelOf i)).map UInt8.toNat else []
def ctStep (k : Keyboard) (d : Bool) (s : List Nat × Bool) (i : Nat) : List Nat × Bool :=
  ((if (decide (k.left + k.middle ≤ i) && !s.2) = true then s.1 ++ [45] else s.1) ++ markB k d i, s.2 || decide (k.left + k.middle ≤ i))
/-- the chord's text, in bytes -/
def chordB (k : Keyboard) (c : Nat) : List Nat := (Cd.bytesOf (k.text c)).map UInt8.toNat

theorem keys_sorted (k : Keyboard) (c : Nat) : (k.keysOf c).Pairwise (· < ·) := by
  unfold Keyboard.keysOf
  exact List.Pairwise.filter _ List.pairwise_lt_range
theorem bank_mono (k : Keyboard) {i j : Nat} (h : i < j) : k.bank i ≤ k.bank j := by
  have l1 : ∀ x, (x < k.left ∧ k.bank x = 0) ∨ (k.left ≤ x ∧ x < k.left + k.middle ∧ k.bank x = 1) ∨ (k.left + k.middle ≤ x ∧ k.bank x = 2) := by
    intro x
    unfold Keyboard.bank
    by_cases c : x < k.left
    · rw [if_pos c]
      exact .inl ⟨c, rfl⟩
    · rw [if_neg c]
      by_cases c2 : x < k.left + k.middle
      · rw [if_pos c2]
        exact .inr (.inl ⟨by omega, c2, rfl⟩)
      · rw [if_neg c2]
        exact .inr (.inr ⟨by omega, rfl⟩)
  have a := l1 i
  have b := l1 j
  omega
/-- what's in order by banks is its banks' parts, one behind another -/
theorem three_parts (f : Nat → Nat) : ∀ l : List Nat, l.Pairwise (fun a b => f a ≤ f b) → (∀ x ∈ l, f x ≤ 2) → l = l.filter (fun i => f i == 0) ++ (l.filter (fun i => f i == 1) ++ l.filter (fun i => f i == 2))
  | [], _, _ => rfl
  | a :: r, p, h => by
    have p' := List.pairwise_cons.mp p
    have ih := three_parts f r p'.2 fun x hx => h x (List.mem_cons_of_mem _ hx)
    have ha := h a List.mem_cons_self
    have nil : ∀ v, v < f a → r.filter (fun i => f i == v) = [] := by
      intro v hv
      rw [List.filter_eq_nil_iff]
      intro x hx q
      have := p'.1 x hx
      have := eq_of_beq q
      omega
    rcases (show f a = 0 ∨ f a = 1 ∨ f a = 2 by omega) with q | q | q
    · rw [List.filter_cons_of_pos (by rw [q]; rfl), List.filter_cons_of_neg (by rw [q]; decide), List.filter_cons_of_neg (by rw [q]; decide), List.cons_append, ← ih]
    · have n0 := nil 0 (by omega)
      rw [List.filter_cons_of_neg (by rw [q]; decide), List.filter_cons_of_pos (by rw [q]; rfl), List.filter_cons_of_neg (by rw [q]; decide), n0, List.nil_append, List.cons_append]
      rw [n0, List.nil_append] at ih
      rw [← ih]
    · have n0 := nil 0 (by omega)
      have n1 := nil 1 (by omega)
      rw [List.filter_cons_of_neg (by rw [q]; decide), List.filter_cons_of_neg (by rw [q]; decide), List.filter_cons_of_pos (by rw [q]; rfl), n0, n1, List.nil_append, List.nil_append]
      rw [n0, n1, List.nil_append, List.nil_append] at ih
      rw [← ih]
theorem bank_le (k : Keyboard) (i : Nat) : k.bank i ≤ 2 := by
  unfold Keyboard.bank
  split
  · omega
  · split <;> omega
theorem bank_right (k : Keyboard) (i : Nat) : k.bank i = 2 ↔ k.left + k.middle ≤ i := by
  unfold Keyboard.bank
  split
  · omega
  · split <;> omega
theorem bank_mid (k : Keyboard) (i : Nat) : k.bank i = 1 ↔ k.left ≤ i ∧ i < k.left + k.middle := by
  unfold Keyboard.bank
  split
  · omega
  · split <;> omega
theorem bank_left (k : Keyboard) (i : Nat) : k.bank i = 0 ↔ i < k.left := by
  unfold Keyboard.bank
  split
  · omega
  · split <;> omega

/-! ### the fold -/
theorem fold_low (k : Keyboard) (d : Bool) : ∀ (l : List Nat) (s : List Nat × Bool), (∀ i ∈ l, i < k.left + k.middle) → l.foldl (ctStep k d) s = (s.1 ++ l.flatMap (markB k d), s.2)
  | [], s, _ => by simp
  | a :: r, s, h => by
    have ha := h a List.mem_cons_self
    rw [List.foldl_cons, fold_low k d r _ fun i hi => h i (List.mem_cons_of_mem _ hi)]
    have n : decide (k.left + k.middle ≤ a) = false := decide_eq_false (by omega)
    unfold ctStep
    rw [n]
    simp
theorem fold_parted (k : Keyboard) (d : Bool) : ∀ (l : List Nat) (t : List Nat), l.foldl (ctStep k d) (t, true) = (t ++ l.flatMap (markB k d), true)
  | [], s => by simp
  | a :: r, s => by
    rw [List.foldl_cons]
    have e : ctStep k d (s, true) a = (s ++ markB k d a, true) := by
      unfold ctStep
      simp
    rw [e, fold_parted k d r]
    simp
theorem fold_right (k : Keyboard) (d : Bool) (l : List Nat) (s : List Nat × Bool) (h : ∀ i ∈ l, k.left + k.middle ≤ i) : (l.foldl (ctStep k d) s).1 = s.1 ++ ((if s.2 = false ∧ l ≠ [] then [45] else []) ++ l.flatMap (markB k d)) := by
  cases l with
  | nil => simp
  | cons a r =>
    have ha := h a List.mem_cons_self
    have y : decide (k.left + k.middle ≤ a) = true := decide_eq_true ha
    rw [List.foldl_cons]
    have e : ctStep k d s a = ((if (!s.2) = true then s.1 ++ [45] else s.1) ++ markB k d a, true) := by
      unfold ctStep
      rw [y]
      simp
    rw [e, fold_parted]
    cases hs : s.2 <;> simp

/-! ### marks -/
theorem fine_at {k : Keyboard} (h : k.ok = true) {i : Nat} {x : Key} (hi : k.keys[i]? = some x) : keyFine k i x = true := by
  unfold Keyboard.ok at h
  rw [Bool.and_eq_true, Bool.and_eq_true, Bool.and_eq_true, Bool.and_eq_true] at h
  have a := h.2.2.2.2
  rw [List.all_eq_true] at a
  have m : (x, i) ∈ k.keys.zipIdx := by
    rw [List.mem_zipIdx_iff_getElem?]
    exact hi
  have := a _ m
  rw [Bool.and_eq_true] at this
  exact this.1
theorem digit_range {k : Keyboard} (h : k.ok = true) {i d : Nat} (hd : k.digitOf i = some d) : k.bar = true ∧ 48 ≤ d ∧ d ≤ 57 ∧ i ≠ 0 := by
  unfold Keyboard.digitOf at hd
  cases hi : k.keys[i]? with
  | none =>
    rw [hi] at hd
    cases hd
  | some x =>
    rw [hi] at hd
    have f := fine_at h hi
    unfold keyFine at f
    have hd' : x.digit = some d := hd
    rw [hd', Bool.and_eq_true, Bool.and_eq_true] at f
    obtain ⟨f1, f2, f3⟩ := f
    unfold isDigit at f3
    rw [Bool.and_eq_true, decide_eq_true_eq, decide_eq_true_eq] at f3
    refine ⟨f2, f3.1, f3.2, fun z => ?_⟩
    rw [if_pos ⟨f2, z⟩] at f1
    simp at f1
theorem kDig_zero {k : Keyboard} (h : k.ok = true) (i : Nat) : kDig k i = 0 ↔ k.digitOf i = none := by
  unfold kDig
  cases hd : k.digitOf i with
  | none => simp
  | some d =>
    have := (digit_range h hd).2.1
    simp
    omega
/-- a mark in bytes is the model's mark written -/
theorem mark_is {k : Keyboard} (h : k.ok = true) (d : Bool) {i : Nat} (hi : (d && i == 0) = false) : markB k d i = (Cd.utf8 (if d = true then (k.digitOf i).getD (k.labelOf i) else k.labelOf i)).map UInt8.toNat := by
  unfold markB
  cases hd : d with
  | false => simp
  | true =>
    rw [hd] at hi
    have i0 : ¬ i = 0 := by simpa using hi
    cases hg : k.digitOf i with
    | none =>
      have z : kDig k i = 0 := (kDig_zero h i).mpr hg
      simp [z, i0]
    | some g =>
      have r := digit_range h hg
      have z : kDig k i = g := by
        unfold kDig
        rw [hg]
        rfl
      have r1 : 48 ≤ g := r.2.1
      have r2 : g ≤ 57 := r.2.2.1
      have g0 : ¬ g = 0 := fun z0 => by
        rw [z0] at r1
        exact absurd r1 (by decide)
      have u : Cd.utf8 g = [UInt8.ofNat g] := if_pos (Nat.lt_of_le_of_lt r2 (by decide))
      have e : (UInt8.ofNat g).toNat = g := by
        rw [UInt8.toNat_ofNat']
        exact Nat.mod_eq_of_lt (Nat.lt_of_le_of_lt r2 (by decide))
      simp [z, g0, u, e]
theorem mark_bar {k : Keyboard} (h : k.ok = true) (d : Bool) (i : Nat) (hi : (d && i == 0) = true) (hb : d = true → k.bar = true) : markB k d i = [] := by
  rw [Bool.and_eq_true] at hi
  obtain ⟨hd, h0⟩ := hi
  have i0 : i = 0 := eq_of_beq h0
  subst i0
  have n : k.digitOf 0 = none := by
    cases q : k.digitOf 0 with
    | none => rfl
    | some g => exact absurd rfl (digit_range h q).2.2.2
  have z : kDig k 0 = 0 := (kDig_zero h 0).mpr n
  unfold markB
  rw [hd, z, hb hd]
  rfl
theorem bytes_flat (l : List Nat) (f : Nat → Nat) : (Cd.bytesOf (l.map f)).map UInt8.toNat = l.flatMap fun i => (Cd.utf8 (f i)).map UInt8.toNat := by
  unfold Cd.bytesOf
  induction l with
  | nil => rfl
  | cons a r ih =>
    rw [List.map_cons, List.flatMap_cons, List.map_append, ih, List.flatMap_cons]
/-- a bank's marks in bytes -/
theorem bank_bytes {k : Keyboard} (h : k.ok = true) (c b : Nat) : (Cd.bytesOf (k.marks c b)).map UInt8.toNat = ((k.keysOf c).filter fun i => k.bank i == b).flatMap (markB k (k.digits c)) := by
  have hb : k.digits c = true → k.bar = true := by
    intro q
    unfold Keyboard.digits at q
    rw [Bool.and_eq_true] at q
    exact q.1
  unfold Keyboard.marks
  dsimp only
  rw [bytes_flat]
  generalize k.keysOf c = l
  induction l with
  | nil => rfl
  | cons a r ih =>
    let f1 : Nat → Bool := fun i => k.bank i == b && !(k.digits c && i == 0)
    let f2 : Nat → Bool := fun i => k.bank i == b
    by_cases q : (k.bank a == b) = true
    · by_cases z : (k.digits c && a == 0) = true
      · rw [List.filter_cons_of_neg (p := f1) (by show ¬ (k.bank a == b && !(k.digits c && a == 0)) = true; rw [q, z]; decide), List.filter_cons_of_pos (p := f2) q, List.flatMap_cons, mark_bar h _ a z hb, List.nil_append]
        exact ih
      · have z' : (k.digits c && a == 0) = false := by simpa using z
        rw [List.filter_cons_of_pos (p := f1) (by show (k.bank a == b && !(k.digits c && a == 0)) = true; rw [q, z']; rfl), List.filter_cons_of_pos (p := f2) q, List.flatMap_cons, List.flatMap_cons, mark_is h _ z', ih]
    · have q' : (k.bank a == b) = false := by simpa using q
      rw [List.filter_cons_of_neg (p := f1) (by show ¬ (k.bank a == b && !(k.digits c && a == 0)) = true; rw [q']; simp), List.filter_cons_of_neg (p := f2) q]
      exact ih
/-- a bank other than the left one has marks just if it has keys -/
theorem marks_nil {k : Keyboard} (h : k.ok = true) (c b : Nat) (hb : b ≠ 0) : k.marks c b = [] ↔ ((k.keysOf c).filter fun i => k.bank i == b) = [] := by
  unfold Keyboard.marks
  dsimp only
  rw [List.map_eq_nil_iff, List.filter_eq_nil_iff, List.filter_eq_nil_iff]
  have key : ∀ i, k.bank i = b → (k.digits c && i == 0) = false := by
    intro i hi
    cases hd : k.digits c with
    | false => rfl
    | true =>
      have bar : k.bar = true := by
        unfold Keyboard.digits at hd
        rw [Bool.and_eq_true] at hd
        exact hd.1
      have left : 0 < k.left := by
        have h' := h
        unfold Keyboard.ok at h'
        rw [Bool.and_eq_true, Bool.and_eq_true, Bool.and_eq_true, Bool.and_eq_true] at h'
        have := h'.2.2.2.1
        rw [bar] at this
        simpa using this
      have : i ≠ 0 := by
        rintro rfl
        have : k.bank 0 = 0 := (bank_left k 0).mpr left
        omega
      simpa using this
  constructor
  · intro hh i hm q
    have e := eq_of_beq q
    exact hh i hm (by rw [q, key i e]; rfl)
  · intro hh i hm q
    rw [Bool.and_eq_true] at q
    exact hh i hm q.1
/-- **the program's text of a chord is the model's** -/
theorem chord_fold {k : Keyboard} (h : k.ok = true) (c : Nat) : ((k.keysOf c).foldl (ctStep k (k.digits c)) ([], (k.keysOf c).any fun i => decide (k.left ≤ i) && decide (i < k.left + k.middle))).1 = chordB k c := by
  have sp := three_parts k.bank (k.keysOf c) ((keys_sorted k c).imp fun {a b} q => bank_mono k q) fun x _ => bank_le k x
  have t : chordB k c = ((k.keysOf c).filter fun i => k.bank i == 0).flatMap (markB k (k.digits c)) ++ ((if k.marks c 1 = [] ∧ k.marks c 2 ≠ [] then [45] else []) ++ (((k.keysOf c).filter fun i => k.bank i == 1).flatMap (markB k (k.digits c)) ++ ((k.keysOf c).filter fun i => k.bank i == 2).flatMap (markB k (k.digits c)))) := by
    unfold chordB Keyboard.text
    dsimp only
    have app : ∀ a b : Cd.Text, (Cd.bytesOf (a ++ b)).map UInt8.toNat = (Cd.bytesOf a).map UInt8.toNat ++ (Cd.bytesOf b).map UInt8.toNat := by
      intro a b
      unfold Cd.bytesOf
      rw [List.flatMap_append, List.map_append]
    rw [app, app, app, bank_bytes h, bank_bytes h, bank_bytes h]
    congr 2
    split
    · rfl
    · rfl
  have anyM : ((k.keysOf c).any fun i => decide (k.left ≤ i) && decide (i < k.left + k.middle)) = !((k.keysOf c).filter fun i => k.bank i == 1).isEmpty := by
    cases hf : (k.keysOf c).filter fun i => k.bank i == 1 with
    | nil =>
      rw [List.filter_eq_nil_iff] at hf
      show _ = false
      rw [List.any_eq_false]
      intro i hi q
      rw [Bool.and_eq_true, decide_eq_true_eq, decide_eq_true_eq] at q
      exact hf i hi (beq_iff_eq.mpr ((bank_mid k i).mpr q))
    | cons a r =>
      show _ = true
      have m : a ∈ (k.keysOf c).filter fun i => k.bank i == 1 := by
        rw [hf]
        exact List.mem_cons_self
      rw [List.mem_filter] at m
      rw [List.any_eq_true]
      refine ⟨a, m.1, ?_⟩
      have := (bank_mid k a).mp (eq_of_beq m.2)
      rw [Bool.and_eq_true, decide_eq_true_eq, decide_eq_true_eq]
      exact this
  have n1 := marks_nil h c 1 (by decide)
  have n2 := marks_nil h c 2 (by decide)
  rw [t, anyM]
  generalize hL : (k.keysOf c).filter (fun i => k.bank i == 0) = L at *
  generalize hM : (k.keysOf c).filter (fun i => k.bank i == 1) = M at *
  generalize hR : (k.keysOf c).filter (fun i => k.bank i == 2) = R at *
  have lowL : ∀ i ∈ L, i < k.left + k.middle := by
    intro i hi
    rw [← hL, List.mem_filter] at hi
    have := (bank_left k i).mp (eq_of_beq hi.2)
    omega
  have lowM : ∀ i ∈ M, i < k.left + k.middle := by
    intro i hi
    rw [← hM, List.mem_filter] at hi
    exact ((bank_mid k i).mp (eq_of_beq hi.2)).2
  have rR : ∀ i ∈ R, k.left + k.middle ≤ i := by
    intro i hi
    rw [← hR, List.mem_filter] at hi
    exact (bank_right k i).mp (eq_of_beq hi.2)
  rw [sp, List.foldl_append, List.foldl_append, fold_low k _ L _ lowL, fold_low k _ M _ lowM, fold_right k _ R _ rR, List.nil_append]
  cases hM0 : M with
  | nil =>
    have m1 : k.marks c 1 = [] := n1.mpr hM0
    by_cases hR0 : R = []
    · have m2 : k.marks c 2 = [] := n2.mpr hR0
      simp [m1, m2, hR0]
    · have m2 : k.marks c 2 ≠ [] := fun z => hR0 (n2.mp z)
      simp [m1, m2, hR0]
  | cons a r =>
    have m1 : k.marks c 1 ≠ [] := fun z => by
      have := n1.mp z
      rw [hM0] at this
      cases this
    simp [m1]
end Kx

-- XUtf
/-! Characters in UTF-8: the first character of what begins with one's bytes, and back. -/
namespace Kx
open Cd

theorem tb {n : Nat} (h : n < 256) : (UInt8.ofNat n).toNat = n := by
  rw [UInt8.toNat_ofNat']
  exact Nat.mod_eq_of_lt (by omega)
theorem u8_ext {x : UInt8} {n : Nat} (h : x.toNat = n) (hn : n < 256) : x = UInt8.ofNat n := by
  apply UInt8.toNat_inj.mp
  rw [tb hn]
  exact h
theorem goesOn_some {x : UInt8} {v : Nat} : goesOn x = some v ↔ x.toNat = 128 + v ∧ v < 64 := by
  unfold goesOn
  constructor
  · intro h
    split at h
    · rename_i q
      have := Option.some.inj h
      have := x.toNat_lt
      omega
    · cases h
  · rintro ⟨h, l⟩
    rw [if_pos (by omega)]
    congr 1
    omega
theorem goesOn_of {v : Nat} (h : v < 64) : goesOn (UInt8.ofNat (128 + v)) = some v := goesOn_some.mpr ⟨tb (by omega), h⟩
theorem first_utf8 {c : Nat} (h : isChar c = true) (r : Bytes) : firstChar (utf8 c ++ r) = some (c, r) := by
  have hc : c < 55296 ∨ (57344 ≤ c ∧ c < 1114112) := by
    unfold isChar at h
    rw [Bool.or_eq_true, Bool.and_eq_true, decide_eq_true_eq, decide_eq_true_eq, decide_eq_true_eq] at h
    exact h
  unfold utf8
  by_cases h1 : c < 128
  · rw [if_pos h1]
    show firstChar (UInt8.ofNat c :: r) = _
    unfold firstChar
    dsimp only
    rw [tb (by omega), if_pos h1]
  · rw [if_neg h1]
    by_cases h2 : c < 2048
    · rw [if_pos h2]
      show firstChar (UInt8.ofNat (192 + c / 64) :: UInt8.ofNat (128 + c % 64) :: r) = _
      unfold firstChar
      dsimp only
      rw [tb (by omega), if_neg (by omega), goesOn_of (by omega)]
      dsimp only
      have e : (192 + c / 64 - 192) * 64 + c % 64 = c := by omega
      rw [if_pos (by omega), e]
    · rw [if_neg h2]
      by_cases h3 : c < 65536
      · rw [if_pos h3]
        show firstChar (UInt8.ofNat (224 + c / 4096) :: UInt8.ofNat (128 + c / 64 % 64) :: UInt8.ofNat (128 + c % 64) :: r) = _
        unfold firstChar
        dsimp only
        rw [tb (by omega), if_neg (by omega), goesOn_of (by omega)]
        dsimp only
        rw [if_neg (by omega), goesOn_of (by omega)]
        dsimp only
        have e : ((224 + c / 4096 - 224) * 64 + c / 64 % 64) * 64 + c % 64 = c := by omega
        rw [if_pos (by omega), e, if_pos ⟨by omega, h⟩]
      · rw [if_neg h3]
        show firstChar (UInt8.ofNat (240 + c / 262144) :: UInt8.ofNat (128 + c / 4096 % 64) :: UInt8.ofNat (128 + c / 64 % 64) :: UInt8.ofNat (128 + c % 64) :: r) = _
        have c2 : c < 1114112 := by omega
        unfold firstChar
        dsimp only
        rw [tb (by omega), if_neg (by omega), goesOn_of (by omega)]
        dsimp only
        rw [if_neg (by omega), goesOn_of (by omega)]
        dsimp only
        rw [if_neg (by omega), goesOn_of (by omega)]
        dsimp only
        have e : (((240 + c / 262144 - 240) * 64 + c / 4096 % 64) * 64 + c / 64 % 64) * 64 + c % 64 = c := by omega
        rw [e, if_pos ⟨by omega, by omega, by omega, h⟩]
theorem first_sound {b : Bytes} {c : Nat} {r : Bytes} (h : firstChar b = some (c, r)) : b = utf8 c ++ r := by
  cases b with
  | nil => cases h
  | cons a t =>
    unfold firstChar at h
    dsimp only at h
    have al := a.toNat_lt
    by_cases h1 : a.toNat < 128
    · rw [if_pos h1] at h
      have e := Option.some.inj h
      have e1 : a.toNat = c := congrArg Prod.fst e
      have e2 : t = r := congrArg Prod.snd e
      have u : utf8 c = [UInt8.ofNat c] := if_pos (show c < 128 by omega)
      rw [u, e2, u8_ext e1 (by omega)]
      rfl
    · rw [if_neg h1] at h
      cases t with
      | nil => cases h
      | cons b s =>
        dsimp only at h
        cases hb : goesOn b with
        | none =>
          rw [hb] at h
          cases h
        | some x =>
          rw [hb] at h
          dsimp only at h
          have gx := goesOn_some.mp hb
          by_cases h2 : 194 ≤ a.toNat ∧ a.toNat < 224
          · rw [if_pos h2] at h
            have e := Option.some.inj h
            have e1 : (a.toNat - 192) * 64 + x = c := congrArg Prod.fst e
            have e2 : s = r := congrArg Prod.snd e
            have u : utf8 c = [UInt8.ofNat (192 + c / 64), UInt8.ofNat (128 + c % 64)] := (if_neg (show ¬ c < 128 by omega)).trans (if_pos (show c < 2048 by omega))
            rw [u, e2, u8_ext (x := a) (n := 192 + c / 64) (by omega) (by omega), u8_ext (x := b) (n := 128 + c % 64) (by omega) (by omega)]
            rfl
          · rw [if_neg h2] at h
            cases s with
            | nil => cases h
            | cons d s2 =>
              dsimp only at h
              cases hd : goesOn d with
              | none =>
                rw [hd] at h
                cases h
              | some y =>
                rw [hd] at h
                dsimp only at h
                have gy := goesOn_some.mp hd
                by_cases h3 : 224 ≤ a.toNat ∧ a.toNat < 240
                · rw [if_pos h3] at h
                  by_cases h4 : 2048 ≤ ((a.toNat - 224) * 64 + x) * 64 + y ∧ isChar (((a.toNat - 224) * 64 + x) * 64 + y) = true
                  · rw [if_pos h4] at h
                    have e := Option.some.inj h
                    have e1 : ((a.toNat - 224) * 64 + x) * 64 + y = c := congrArg Prod.fst e
                    have e2 : s2 = r := congrArg Prod.snd e
                    have g := h4.1
                    have u : utf8 c = [UInt8.ofNat (224 + c / 4096), UInt8.ofNat (128 + c / 64 % 64), UInt8.ofNat (128 + c % 64)] := (if_neg (show ¬ c < 128 by omega)).trans ((if_neg (show ¬ c < 2048 by omega)).trans (if_pos (show c < 65536 by omega)))
                    rw [u, e2, u8_ext (x := a) (n := 224 + c / 4096) (by omega) (by omega), u8_ext (x := b) (n := 128 + c / 64 % 64) (by omega) (by omega), u8_ext (x := d) (n := 128 + c % 64) (by omega) (by omega)]
                    rfl
                  · rw [if_neg h4] at h
                    cases h
                · rw [if_neg h3] at h
                  cases s2 with
                  | nil => cases h
                  | cons f s3 =>
                    dsimp only at h
                    cases hf : goesOn f with
                    | none =>
                      rw [hf] at h
                      cases h
                    | some z =>
                      rw [hf] at h
                      dsimp only at h
                      have gz := goesOn_some.mp hf
                      by_cases h4 : 240 ≤ a.toNat ∧ a.toNat < 245 ∧ 65536 ≤ (((a.toNat - 240) * 64 + x) * 64 + y) * 64 + z ∧ isChar ((((a.toNat - 240) * 64 + x) * 64 + y) * 64 + z) = true
                      · rw [if_pos h4] at h
                        have e := Option.some.inj h
                        have e1 : (((a.toNat - 240) * 64 + x) * 64 + y) * 64 + z = c := congrArg Prod.fst e
                        have e2 : s3 = r := congrArg Prod.snd e
                        have g1 := h4.1
                        have g2 := h4.2.1
                        have g3 := h4.2.2.1
                        have u : utf8 c = [UInt8.ofNat (240 + c / 262144), UInt8.ofNat (128 + c / 4096 % 64), UInt8.ofNat (128 + c / 64 % 64), UInt8.ofNat (128 + c % 64)] := (if_neg (show ¬ c < 128 by omega)).trans ((if_neg (show ¬ c < 2048 by omega)).trans (if_neg (show ¬ c < 65536 by omega)))
                        rw [u, e2, u8_ext (x := a) (n := 240 + c / 262144) (by omega) (by omega), u8_ext (x := b) (n := 128 + c / 4096 % 64) (by omega) (by omega), u8_ext (x := d) (n := 128 + c / 64 % 64) (by omega) (by omega), u8_ext (x := f) (n := 128 + c % 64) (by omega) (by omega)]
                        rfl
                      · rw [if_neg h4] at h
                        cases h
end Kx

-- XRead
/-! Reading an outline's text: a chord under way as the program keeps it, against the document's model, which keeps the keys' row. -/
namespace Kx
open CdKeys

/-- one chord of a text as far as it's read -/
structure PartM where
  chord : Nat
  lowest : Nat
  ro : Bool
  settled : Nat
  complete : Bool
def part0 : PartM := ⟨0, 0, false, 0, false⟩
def endM (k : Keyboard) (p : PartM) : Nat := if p.ro = true then k.size else k.left + k.middle
/-- the marks of one key: character, key, what's settled by it -/
def keyMarks (k : Keyboard) (p : PartM) (i : Nat) : List (Nat × Nat × Nat) :=
  if (k.bar && decide (i = 0)) = true then [(k.labelOf i, i, 2)]
  else if kDig k i = 0 then [(k.labelOf i, i, p.settled)]
  else (if p.settled = 0 ∨ p.settled = 1 then [(k.labelOf i, i, 1)] else []) ++ (if p.settled = 0 ∨ p.settled = 3 then [(kDig k i, i, 3)] else [])
def marksM (k : Keyboard) (p : PartM) : List (Nat × Nat × Nat) := (List.range' p.lowest (endM k p - p.lowest)).flatMap (keyMarks k p)
def mayDashM (k : Keyboard) (p : PartM) : Bool := !p.ro && (List.range' (k.left + k.middle) (k.size - (k.left + k.middle))).any fun i => decide (kDig k i = 0) || !decide (p.settled = 2)
def dashM (k : Keyboard) (p : PartM) : PartM := { p with lowest := k.left + k.middle, ro := true, complete := false }
def pressM (k : Keyboard) (p : PartM) (i s : Nat) : PartM := ⟨if s = 3 then p.chord ||| 2 ^ i ||| 1 else p.chord ||| 2 ^ i, i + 1, decide (k.left ≤ i), s, true⟩

/-! ### the two agree -/
def fBar (k : Keyboard) (m : Mid) : Bool := m.keys.any fun (x : Nat × Bool) => k.bar && x.1 == 0
def fShown (m : Mid) : Bool := m.keys.any fun (x : Nat × Bool) => x.2
def fPlain (k : Keyboard) (m : Mid) : Bool := m.keys.any fun (x : Nat × Bool) => !x.2 && (k.digitOf x.1).isSome
def allLt (m : Mid) (i : Nat) : Bool := m.keys.all fun (x : Nat × Bool) => decide (x.1 < i)
def anyMid (k : Keyboard) (m : Mid) : Bool := m.keys.any fun (x : Nat × Bool) => k.bank x.1 == 1
def sumK (m : Mid) : Nat := (m.keys.map fun (x : Nat × Bool) => 2 ^ x.1).foldl (fun (a b : Nat) => a + b) 0
theorem chord_sum (m : Mid) : m.chord = sumK m + (if fShown m = true then 1 else 0) := rfl
structure Rel (k : Keyboard) (p : PartM) (m : Mid) : Prop where
  low : ∀ i, (allLt m i = true ∧ (m.dash = true → k.left + k.middle ≤ i)) ↔ p.lowest ≤ i
  ro : p.ro = (m.dash || anyMid k m)
  nd : m.dash = false → p.ro = false → ∀ x ∈ m.keys, k.bank x.1 = 0
  st : p.settled = if fBar k m = true then 2 else if fShown m = true then 3 else if fPlain k m = true then 1 else 0
  ex : ¬ (fBar k m = true ∧ fShown m = true) ∧ ¬ (fBar k m = true ∧ fPlain k m = true) ∧ ¬ (fShown m = true ∧ fPlain k m = true)
  cp : p.complete = over? k m
  ch : p.chord = m.chord
  cl : p.chord < 2 ^ p.lowest
  ev : k.bar = true → p.settled ≠ 2 → p.settled ≠ 3 → p.chord % 2 = 0
  od : p.settled = 3 → p.chord % 2 = 1
theorem rel0 (k : Keyboard) (o : Cd.Outline) : Rel k part0 ⟨o, [], false⟩ :=
  ⟨fun i => ⟨fun _ => Nat.zero_le _, fun _ => ⟨rfl, fun h => by cases h⟩⟩, rfl, fun _ _ x hx => (by cases hx), rfl, ⟨fun h => (by cases h.1), fun h => (by cases h.1), fun h => (by cases h.1)⟩, rfl, rfl, by decide, fun _ _ _ => rfl, fun h => by cases h⟩

section
variable {k : Keyboard} {p : PartM} {m : Mid}
theorem free_shown (r : Rel k p m) : (!fPlain k m && !fBar k m) = (decide (p.settled = 0) || decide (p.settled = 3)) := by
  have e := r.ex
  rw [r.st]
  revert e
  generalize fBar k m = a
  generalize fShown m = b
  generalize fPlain k m = c
  cases a <;> cases b <;> cases c <;> simp
theorem free_plain (r : Rel k p m) : (!fShown m && !fBar k m) = (decide (p.settled = 0) || decide (p.settled = 1)) := by
  have e := r.ex
  rw [r.st]
  revert e
  generalize fBar k m = a
  generalize fShown m = b
  generalize fPlain k m = c
  cases a <;> cases b <;> cases c <;> simp
/-- which keys may come next -/
theorem place_ok (r : Rel k p m) (hk : k.left + k.middle ≤ k.size) {i : Nat} (hi : i < k.size) : (allLt m i && (if k.bank i = 2 then m.dash || anyMid k m else !m.dash)) = (decide (p.lowest ≤ i) && decide (i < endM k p)) := by
  have low := r.low i
  rw [← r.ro]
  unfold endM
  by_cases b2 : k.bank i = 2
  · have ge := (bank_right k i).mp b2
    rw [if_pos b2]
    cases hro : p.ro with
    | true =>
      rw [if_pos rfl, decide_eq_true hi, Bool.and_true, Bool.and_true]
      cases ha : allLt m i with
      | true => exact (decide_eq_true (low.mp ⟨ha, fun _ => ge⟩)).symm
      | false =>
        refine (decide_eq_false fun z => ?_).symm
        have := (low.mpr z).1
        rw [ha] at this
        cases this
    | false =>
      rw [if_neg Bool.false_ne_true, Bool.and_false]
      have : decide (i < k.left + k.middle) = false := decide_eq_false (by omega)
      rw [this, Bool.and_false]
  · have lt : i < k.left + k.middle := by
      refine Nat.lt_of_not_le fun z => b2 ((bank_right k i).mpr z)
    rw [if_neg b2]
    have l2 : decide (i < if p.ro = true then k.size else k.left + k.middle) = true := by
      refine decide_eq_true ?_
      split
      · exact hi
      · exact lt
    rw [l2, Bool.and_true]
    cases hd : m.dash with
    | true =>
      rw [Bool.not_true, Bool.and_false]
      refine (decide_eq_false fun z => ?_).symm
      have := (low.mpr z).2 hd
      omega
    | false =>
      rw [Bool.not_false, Bool.and_true]
      cases ha : allLt m i with
      | true => exact (decide_eq_true (low.mp ⟨ha, fun z => by rw [hd] at z; cases z⟩)).symm
      | false =>
        refine (decide_eq_false fun z => ?_).symm
        have := (low.mpr z).1
        rw [ha] at this
        cases this
theorem mayNext_is (r : Rel k p m) (hk : k.left + k.middle ≤ k.size) {i : Nat} (hi : i < k.size) (d : Bool) : mayNext k m i d = ((decide (p.lowest ≤ i) && decide (i < endM k p)) &&
    (if d = true then (k.digitOf i).isSome && (decide (p.settled = 0) || decide (p.settled = 3)) else (k.digitOf i).isNone || (decide (p.settled = 0) || decide (p.settled = 1)))) := by
  rw [← place_ok r hk hi, ← free_shown r, ← free_plain r, Bool.and_assoc]
  rfl
/-- what's settled by a choice -/
def stl (k : Keyboard) (p : PartM) (x : Nat × Nat × Bool) : Nat := if x.2.2 = true then 3 else if (k.bar && decide (x.2.1 = 0)) = true then 2 else if kDig k x.2.1 = 0 then p.settled else 1
def tellM (k : Keyboard) (p : PartM) (x : Nat × Nat × Bool) : Nat × Nat × Nat := (x.1, x.2.1, stl k p x)
theorem range_cut {α : Type} (f : Nat → List α) {n lo e : Nat} (he : e ≤ n) (hf : ∀ i, i < n → ¬ (lo ≤ i ∧ i < e) → f i = []) : (List.range n).flatMap f = (List.range' lo (e - lo)).flatMap f := by
  have nil : ∀ l : List Nat, (∀ i ∈ l, i < n ∧ ¬ (lo ≤ i ∧ i < e)) → l.flatMap f = [] := by
    intro l h
    rw [List.flatMap_eq_nil_iff]
    intro i hi
    exact hf i (h i hi).1 (h i hi).2
  by_cases c : lo ≤ e
  · have e1 : List.range n = List.range' 0 lo ++ (List.range' lo (e - lo) ++ List.range' e (n - e)) := by
      rw [List.range_eq_range']
      have a1 : List.range' lo (e - lo) ++ List.range' e (n - e) = List.range' lo (n - lo) := by
        have := List.range'_append (s := lo) (m := e - lo) (n := n - e) (step := 1)
        rw [show lo + 1 * (e - lo) = e by omega, show e - lo + (n - e) = n - lo by omega] at this
        exact this
      rw [a1]
      have := List.range'_append (s := 0) (m := lo) (n := n - lo) (step := 1)
      rw [show 0 + 1 * lo = lo by omega, show lo + (n - lo) = n by omega] at this
      exact this.symm
    rw [e1, List.flatMap_append, List.flatMap_append, nil (List.range' 0 lo) fun i hi => by
      rw [List.mem_range'_1] at hi
      omega, nil (List.range' e (n - e)) fun i hi => by
      rw [List.mem_range'_1] at hi
      omega, List.nil_append, List.append_nil]
  · have z : e - lo = 0 := by omega
    rw [z, nil (List.range n) fun i hi => by
      rw [List.mem_range] at hi
      omega]
    rfl
theorem flat_congr {α β : Type} {f g : α → List β} : ∀ {l : List α}, (∀ x ∈ l, f x = g x) → l.flatMap f = l.flatMap g
  | [], _ => rfl
  | a :: r, h => by
    rw [List.flatMap_cons, List.flatMap_cons, h a List.mem_cons_self, flat_congr fun x hx => h x (List.mem_cons_of_mem _ hx)]
theorem end_le (hk : k.left + k.middle ≤ k.size) : endM k p ≤ k.size := by
  unfold endM
  split
  · exact Nat.le_refl _
  · exact hk
/-- the marks are the model's choices -/
theorem marks_is (r : Rel k p m) (h : k.ok = true) (hk : k.left + k.middle ≤ k.size) : marksM k p = (choices k m).map (tellM k p) := by
  unfold choices
  rw [List.map_flatMap]
  have pt : ∀ i, i < k.size → (lo : p.lowest ≤ i) → (hi : i < endM k p) → ((if mayNext k m i false = true then [(k.labelOf i, i, false)] else []) ++ (if mayNext k m i true = true then [((k.digitOf i).getD 0, i, true)] else [])).map (tellM k p) = keyMarks k p i := by
    intro i hi lo en
    have a1 : (decide (p.lowest ≤ i) && decide (i < endM k p)) = true := by rw [decide_eq_true lo, decide_eq_true en]; rfl
    rw [mayNext_is r hk hi, mayNext_is r hk hi, a1, Bool.true_and, Bool.true_and, if_neg Bool.false_ne_true, if_pos rfl]
    unfold keyMarks
    cases hd : k.digitOf i with
    | none =>
      have z := (kDig_zero h i).mpr hd
      by_cases b : (k.bar && decide (i = 0)) = true
      · rw [if_pos b]
        simp only [Option.isNone_none, Option.isSome_none, Bool.true_or, Bool.false_and, if_true, Bool.false_eq_true, if_false, List.append_nil, List.map_cons, List.map_nil]
        unfold tellM stl
        simp only [Bool.false_eq_true, if_false]
        rw [if_pos b]
      · rw [if_neg b, if_pos z]
        simp only [Option.isNone_none, Option.isSome_none, Bool.true_or, Bool.false_and, if_true, Bool.false_eq_true, if_false, List.append_nil, List.map_cons, List.map_nil]
        unfold tellM stl
        simp only [Bool.false_eq_true, if_false]
        rw [if_neg b, if_pos z]
    | some d =>
      have rg := digit_range h hd
      have b : ¬ (k.bar && decide (i = 0)) = true := by
        rw [decide_eq_false rg.2.2.2, Bool.and_false]
        exact Bool.false_ne_true
      have z : ¬ kDig k i = 0 := fun q => by
        rw [(kDig_zero h i).mp q] at hd
        cases hd
      have g : kDig k i = d := by
        unfold kDig
        rw [hd]
        rfl
      rw [if_neg b, if_neg z]
      simp only [Option.isNone_some, Option.isSome_some, Bool.false_or, Bool.true_and, Option.getD_some, Bool.or_eq_true, decide_eq_true_eq, List.map_append]
      congr 1
      · by_cases c : p.settled = 0 ∨ p.settled = 1
        · rw [if_pos c, if_pos c, List.map_cons, List.map_nil]
          unfold tellM stl
          simp only [Bool.false_eq_true, if_false]
          rw [if_neg b, if_neg z]
        · rw [if_neg c, if_neg c]
          rfl
      · by_cases c : p.settled = 0 ∨ p.settled = 3
        · rw [if_pos c, if_pos c, List.map_cons, List.map_nil, g]
          rfl
        · rw [if_neg c, if_neg c]
          rfl
  rw [range_cut _ (end_le hk) (lo := p.lowest) fun i hi no => by
    have a1 : (decide (p.lowest ≤ i) && decide (i < endM k p)) = false := by
      by_cases c : p.lowest ≤ i
      · have : ¬ i < endM k p := fun z => no ⟨c, z⟩
        rw [decide_eq_false this, Bool.and_false]
      · rw [decide_eq_false c, Bool.false_and]
    rw [mayNext_is r hk hi, mayNext_is r hk hi, a1, Bool.false_and, Bool.false_and]
    rfl]
  unfold marksM
  refine (flat_congr fun i hi => ?_).symm
  rw [List.mem_range'_1] at hi
  have el := end_le (p := p) hk
  exact pt i (by omega) hi.1 (by omega)

/-! ### a dash -/
theorem rel_dash (r : Rel k p m) (hk : k.left + k.middle ≤ k.size) (hd : m.dash = false) (hro : p.ro = false) : Rel k (dashM k p) { m with dash := true } := by
  have b0 := r.nd hd hro
  have lowK : ∀ i, k.left + k.middle ≤ i → allLt m i = true := by
    intro i hi
    unfold allLt
    rw [List.all_eq_true]
    intro x hx
    have := (bank_left k x.1).mp (b0 x hx)
    exact decide_eq_true (by omega)
  refine ⟨fun i => ⟨fun z => z.2 rfl, fun z => ⟨lowK i z, fun _ => z⟩⟩, rfl, fun z => (by cases z), r.st, r.ex, ?_, r.ch, ?_, r.ev, r.od⟩
  · show false = over? k { m with dash := true }
    unfold over?
    have : (m.keys.any fun (x : Nat × Bool) => k.bank x.1 == 2) = false := by
      rw [List.any_eq_false]
      intro x hx q
      have := b0 x hx
      have := eq_of_beq q
      omega
    show false = (!m.keys.isEmpty && (!true || m.keys.any fun (x : Nat × Bool) => k.bank x.1 == 2))
    rw [this, Bool.not_true, Bool.or_false, Bool.and_false]
  · have : p.lowest ≤ k.left + k.middle := (r.low _).mp ⟨lowK _ (Nat.le_refl _), fun z => by rw [hd] at z; cases z⟩
    exact Nat.lt_of_lt_of_le r.cl (Nat.pow_le_pow_right (by decide) this)
theorem mayDash_is (r : Rel k p m) (h : k.ok = true) (hk : k.left + k.middle ≤ k.size) : mayDash k m = mayDashM k p := by
  unfold mayDash mayDashM
  cases hro : p.ro with
  | true =>
    rw [Bool.not_true, Bool.false_and]
    have q := r.ro
    rw [hro] at q
    cases hd : m.dash with
    | true => rfl
    | false =>
      rw [hd, Bool.false_or] at q
      have a := q.symm
      unfold anyMid at a
      rw [List.any_eq_true] at a
      obtain ⟨x, hx, hb⟩ := a
      have : (m.keys.all fun (x : Nat × Bool) => k.bank x.1 == 0) = false := by
        rw [List.all_eq_false]
        refine ⟨x, hx, fun z => ?_⟩
        have := eq_of_beq hb
        have := eq_of_beq z
        omega
      rw [this, Bool.false_and, Bool.and_false]
  | false =>
    have q := r.ro
    rw [hro] at q
    have hd : m.dash = false := by
      cases z : m.dash
      · rfl
      · rw [z] at q
        cases q
    have b0 := r.nd hd hro
    have a0 : (m.keys.all fun (x : Nat × Bool) => k.bank x.1 == 0) = true := by
      rw [List.all_eq_true]
      intro x hx
      exact beq_iff_eq.mpr (b0 x hx)
    have rd := rel_dash r hk hd hro
    have mk := marks_is rd h hk
    rw [hd, a0, Bool.not_false, Bool.true_and, Bool.true_and, Bool.true_and]
    have e1 : (choices k { m with dash := true }).isEmpty = (marksM k (dashM k p)).isEmpty := by
      rw [mk]
      cases choices k { m with dash := true } <;> rfl
    rw [e1]
    show (!(List.flatMap (keyMarks k (dashM k p)) (List.range' (k.left + k.middle) (k.size - (k.left + k.middle)))).isEmpty) = _
    have right : ∀ i, k.left + k.middle ≤ i → (keyMarks k (dashM k p) i).isEmpty = !(decide (kDig k i = 0) || !decide (p.settled = 2)) := by
      intro i hi
      have b : ¬ (k.bar && decide (i = 0)) = true := by
        intro z
        rw [Bool.and_eq_true, decide_eq_true_eq] at z
        have h' := h
        unfold Keyboard.ok at h'
        rw [Bool.and_eq_true, Bool.and_eq_true, Bool.and_eq_true, Bool.and_eq_true] at h'
        have := h'.2.2.2.1
        rw [z.1] at this
        have l : 0 < k.left := by simpa using this
        omega
      unfold keyMarks
      rw [if_neg b]
      by_cases z : kDig k i = 0
      · rw [if_pos z, decide_eq_true z]
        rfl
      · rw [if_neg z, decide_eq_false z, Bool.false_or]
        show ((if p.settled = 0 ∨ p.settled = 1 then _ else _) ++ (if p.settled = 0 ∨ p.settled = 3 then _ else _) : List (Nat × Nat × Nat)).isEmpty = _
        have s4 : p.settled = 0 ∨ p.settled = 1 ∨ p.settled = 2 ∨ p.settled = 3 := by
          rw [r.st]
          cases fBar k m <;> cases fShown m <;> cases fPlain k m <;> simp
        rcases s4 with s | s | s | s <;> rw [s] <;> rfl
    have gen : ∀ l : List Nat, (∀ i ∈ l, k.left + k.middle ≤ i) → (!(l.flatMap (keyMarks k (dashM k p))).isEmpty) = l.any fun i => decide (kDig k i = 0) || !decide (p.settled = 2) := by
      intro l
      induction l with
      | nil => intro _; rfl
      | cons a t ih =>
        intro hl
        have ra := right a (hl a List.mem_cons_self)
        rw [List.flatMap_cons, List.any_cons, ← ih fun i hi => hl i (List.mem_cons_of_mem _ hi)]
        cases q1 : keyMarks k (dashM k p) a with
        | nil =>
          rw [q1] at ra
          have ra' : (decide (kDig k a = 0) || !decide (p.settled = 2)) = false := by
            have : true = !(decide (kDig k a = 0) || !decide (p.settled = 2)) := ra
            cases z : (decide (kDig k a = 0) || !decide (p.settled = 2))
            · rfl
            · rw [z] at this
              cases this
          rw [ra', Bool.false_or]
          rfl
        | cons y ys =>
          rw [q1] at ra
          have ra' : (decide (kDig k a = 0) || !decide (p.settled = 2)) = true := by
            have : false = !(decide (kDig k a = 0) || !decide (p.settled = 2)) := ra
            cases z : (decide (kDig k a = 0) || !decide (p.settled = 2))
            · rw [z] at this
              cases this
            · rfl
          rw [ra', Bool.true_or]
          rfl
    refine gen _ fun i hi => ?_
    rw [List.mem_range'_1] at hi
    exact hi.1

/-! ### a key's mark -/
theorem or_disj {a i : Nat} (h : a < 2 ^ i) : a ||| 2 ^ i = a + 2 ^ i := by
  have e := Nat.two_pow_add_eq_or_of_lt h 1
  rw [Nat.mul_one] at e
  rw [Nat.or_comm, ← e, Nat.add_comm]
theorem or_one_even {a : Nat} (h : a % 2 = 0) : a ||| 1 = a + 1 := by
  have e := Nat.two_pow_add_eq_or_of_lt (i := 1) (b := 1) (by decide) (a / 2)
  have q : 2 ^ 1 * (a / 2) = a := by omega
  rw [q] at e
  exact e.symm
theorem or_one_odd {a : Nat} (h : a % 2 = 1) : a ||| 1 = a := by
  have e := or_one_even (a := a - 1) (by omega)
  have q : a - 1 + 1 = a := by omega
  rw [q] at e
  rw [← e, Nat.or_assoc, Nat.or_self]
theorem pow_even {i : Nat} (h : 1 ≤ i) : 2 ^ i % 2 = 0 := by
  obtain ⟨j, rfl⟩ : ∃ j, i = j + 1 := ⟨i - 1, by omega⟩
  rw [Nat.pow_succ]
  omega
theorem any_snoc {α : Type} (l : List α) (a : α) (f : α → Bool) : (l ++ [a]).any f = (l.any f || f a) := by
  rw [List.any_append]
  simp
theorem sumK_more (m : Mid) (i : Nat) (d : Bool) : sumK (m.more i d) = sumK m + 2 ^ i := by
  unfold sumK Mid.more
  rw [List.map_append, List.foldl_append]
  rfl
/-- a choice is one of a key that may come next, and its mark's character is no - and no / -/
theorem choice_spec {x : Nat × Nat × Bool} (hx : x ∈ choices k m) : x.2.1 < k.size ∧ mayNext k m x.2.1 x.2.2 = true ∧ (x.2.2 = true → x.1 = (k.digitOf x.2.1).getD 0) ∧ (x.2.2 = false → x.1 = k.labelOf x.2.1) := by
  unfold choices at hx
  rw [List.mem_flatMap] at hx
  obtain ⟨i, hi, hx⟩ := hx
  rw [List.mem_range] at hi
  rcases List.mem_append.mp hx with q | q
  · split at q
    · rename_i c
      rw [List.mem_singleton] at q
      subst q
      exact ⟨hi, c, fun z => (by cases z), fun _ => rfl⟩
    · cases q
  · split at q
    · rename_i c
      rw [List.mem_singleton] at q
      subst q
      exact ⟨hi, c, fun _ => rfl, fun z => (by cases z)⟩
    · cases q
theorem rel_press (r : Rel k p m) (h : k.ok = true) (hk : k.left + k.middle ≤ k.size) {x : Nat × Nat × Bool} (hx : x ∈ choices k m) : Rel k (pressM k p x.2.1 (stl k p x)) (m.more x.2.1 x.2.2) := by
  obtain ⟨hi, hm, _, _⟩ := choice_spec hx
  obtain ⟨c0, i, d⟩ := x
  dsimp only at hi hm ⊢
  have pl := mayNext_is r hk hi d
  rw [hm] at pl
  have pl' := pl.symm
  rw [Bool.and_eq_true, Bool.and_eq_true, decide_eq_true_eq, decide_eq_true_eq] at pl'
  obtain ⟨⟨lo, en⟩, rest⟩ := pl'
  have lowi := (r.low i).mpr lo
  have keysLt : ∀ y ∈ m.keys, y.1 < i := by
    intro y hy
    have := lowi.1
    unfold allLt at this
    rw [List.all_eq_true] at this
    exact of_decide_eq_true (this y hy)
  have s4 : p.settled = 0 ∨ p.settled = 1 ∨ p.settled = 2 ∨ p.settled = 3 := by
    rw [r.st]
    cases fBar k m <;> cases fShown m <;> cases fPlain k m <;> simp
  -- the flags behind it
  have eB : fBar k (m.more i d) = (fBar k m || (k.bar && i == 0)) := any_snoc _ _ _
  have eS : fShown (m.more i d) = (fShown m || d) := any_snoc _ _ _
  have eP : fPlain k (m.more i d) = (fPlain k m || (!d && (k.digitOf i).isSome)) := any_snoc _ _ _
  have eM : anyMid k (m.more i d) = (anyMid k m || k.bank i == 1) := any_snoc _ _ _
  have i0 : ∀ g, k.digitOf i = some g → i ≠ 0 := fun g hg => (digit_range h hg).2.2.2
  have beq0 : (i == 0) = decide (i = 0) := by
    by_cases z : i = 0
    · subst z
      rfl
    · rw [decide_eq_false z]
      exact beq_eq_false_iff_ne.mpr z
  have nokeys : i = 0 → m.keys = [] := by
    intro z
    cases q : m.keys with
    | nil => rfl
    | cons y ys =>
      have := keysLt y (by rw [q]; exact List.mem_cons_self)
      omega
  -- what's settled, the exclusion
  have fr1 := free_shown r
  have fr2 := free_plain r
  have settle : (stl k p (c0, i, d) = if fBar k (m.more i d) = true then 2 else if fShown (m.more i d) = true then 3 else if fPlain k (m.more i d) = true then 1 else 0) ∧
      (¬ (fBar k (m.more i d) = true ∧ fShown (m.more i d) = true) ∧ ¬ (fBar k (m.more i d) = true ∧ fPlain k (m.more i d) = true) ∧ ¬ (fShown (m.more i d) = true ∧ fPlain k (m.more i d) = true)) := by
    rw [eB, eS, eP, beq0]
    unfold stl
    dsimp only
    have st := r.st
    have ex := r.ex
    cases d with
    | true =>
      rw [if_pos rfl, Bool.and_eq_true] at rest
      obtain ⟨g, hg⟩ := Option.isSome_iff_exists.mp rest.1
      have b := i0 g hg
      rw [rest.2] at fr1
      rw [decide_eq_false b, Bool.and_false, if_pos rfl]
      rw [Bool.and_eq_true] at fr1
      have f1 : fPlain k m = false := by simpa using fr1.1
      have f2 : fBar k m = false := by simpa using fr1.2
      rw [f1, f2]
      simp
    | false =>
      rw [if_neg Bool.false_ne_true] at rest ⊢
      cases hd : k.digitOf i with
      | some g =>
        have b := i0 g hd
        rw [hd] at rest
        have rest' : (decide (p.settled = 0) || decide (p.settled = 1)) = true := rest
        rw [rest', Bool.and_eq_true] at fr2
        have f1 : fShown m = false := by simpa using fr2.1
        have f2 : fBar k m = false := by simpa using fr2.2
        have z : ¬ kDig k i = 0 := fun q => by
          rw [(kDig_zero h i).mp q] at hd
          cases hd
        rw [decide_eq_false b, Bool.and_false, if_neg Bool.false_ne_true, if_neg z, f1, f2]
        simp
      | none =>
        have z := (kDig_zero h i).mpr hd
        by_cases b : (k.bar && decide (i = 0)) = true
        · rw [if_pos b, b]
          have i00 : i = 0 := by
            rw [Bool.and_eq_true, decide_eq_true_eq] at b
            exact b.2
          have kn := nokeys i00
          have f1 : fShown m = false := by unfold fShown; rw [kn]; rfl
          have f2 : fPlain k m = false := by unfold fPlain; rw [kn]; rfl
          rw [f1, f2]
          simp
        · have b' : (k.bar && decide (i = 0)) = false := by simpa using b
          rw [if_neg b, if_pos z, b', st]
          revert ex
          generalize fBar k m = a1
          generalize fShown m = a2
          generalize fPlain k m = a3
          cases a1 <;> cases a2 <;> cases a3 <;> simp
  -- numbers
  have cl := r.cl
  have cl' : p.chord < 2 ^ i := Nat.lt_of_lt_of_le cl (Nat.pow_le_pow_right (by decide) lo)
  have orE := or_disj cl'
  have chs := r.ch
  rw [chord_sum] at chs
  have s3 : p.settled = 3 ↔ fShown m = true := by
    rw [r.st]
    have ex := r.ex
    revert ex
    generalize fBar k m = a1
    generalize fShown m = a2
    generalize fPlain k m = a3
    cases a1 <;> cases a2 <;> cases a3 <;> simp
  have num : (if stl k p (c0, i, d) = 3 then p.chord ||| 2 ^ i ||| 1 else p.chord ||| 2 ^ i) = (m.more i d).chord ∧ (if stl k p (c0, i, d) = 3 then p.chord ||| 2 ^ i ||| 1 else p.chord ||| 2 ^ i) < 2 ^ (i + 1) ∧
      (k.bar = true → stl k p (c0, i, d) ≠ 2 → stl k p (c0, i, d) ≠ 3 → (if stl k p (c0, i, d) = 3 then p.chord ||| 2 ^ i ||| 1 else p.chord ||| 2 ^ i) % 2 = 0) ∧
      (stl k p (c0, i, d) = 3 → (if stl k p (c0, i, d) = 3 then p.chord ||| 2 ^ i ||| 1 else p.chord ||| 2 ^ i) % 2 = 1) := by
    rw [chord_sum, sumK_more, eS, orE]
    have pw : 2 ^ (i + 1) = 2 * 2 ^ i := by rw [Nat.pow_succ]; omega
    by_cases t3 : stl k p (c0, i, d) = 3
    · -- digits are shown: key 0 isn't among the keys
      rw [if_pos t3]
      have ige : 1 ≤ i := by
        refine Nat.pos_of_ne_zero fun z => ?_
        have kn := nokeys z
        unfold stl at t3
        dsimp only at t3
        cases d with
        | true =>
          rw [if_pos rfl, Bool.and_eq_true] at rest
          obtain ⟨g, hg⟩ := Option.isSome_iff_exists.mp rest.1
          exact i0 g hg z
        | false =>
          rw [if_neg Bool.false_ne_true] at t3
          split at t3
          · cases t3
          · split at t3
            · have := s3.mp t3
              unfold fShown at this
              rw [kn] at this
              cases this
            · cases t3
      have pe := pow_even ige
      have shown' : (fShown m || d) = true := by
        cases d with
        | true => exact Bool.or_true _
        | false =>
          unfold stl at t3
          dsimp only at t3
          rw [if_neg Bool.false_ne_true] at t3
          split at t3
          · cases t3
          · split at t3
            · rw [s3.mp t3]
              rfl
            · cases t3
      rw [shown', if_pos rfl]
      by_cases sh : fShown m = true
      · have od := r.od (s3.mpr sh)
        rw [sh, if_pos rfl] at chs
        rw [or_one_odd (by omega)]
        exact ⟨by omega, by omega, fun _ _ z => absurd t3 z, fun _ => by omega⟩
      · rw [if_neg sh] at chs
        have dt : d = true := by
          cases d
          · rw [Bool.or_false] at shown'
            exact absurd shown' sh
          · rfl
        subst dt
        rw [if_pos rfl, Bool.and_eq_true] at rest
        obtain ⟨g, hg⟩ := Option.isSome_iff_exists.mp rest.1
        have bar := (digit_range h hg).1
        have r2 := rest.2
        rw [Bool.or_eq_true, decide_eq_true_eq, decide_eq_true_eq] at r2
        have s0 : p.settled = 0 := by
          rcases r2 with q | q
          · exact q
          · exact absurd (s3.mp q) sh
        have ev := r.ev bar (by omega) (by omega)
        rw [or_one_even (by omega)]
        exact ⟨by omega, by omega, fun _ _ z => absurd t3 z, fun _ => by omega⟩
    · rw [if_neg t3]
      have nd : (fShown m || d) = false := by
        cases d with
        | true => exact absurd (by unfold stl; exact if_pos rfl) t3
        | false =>
          cases sh : fShown m with
          | false => rfl
          | true =>
            exfalso
            have e3 := s3.mpr sh
            unfold stl at t3
            dsimp only at t3
            rw [if_neg Bool.false_ne_true] at t3 rest
            by_cases b : (k.bar && decide (i = 0)) = true
            · have i00 : i = 0 := by
                rw [Bool.and_eq_true, decide_eq_true_eq] at b
                exact b.2
              have kn := nokeys i00
              unfold fShown at sh
              rw [kn] at sh
              cases sh
            · rw [if_neg b] at t3
              by_cases z : kDig k i = 0
              · rw [if_pos z] at t3
                exact t3 e3
              · have isn : (k.digitOf i).isNone = false := by
                  cases hd : k.digitOf i with
                  | none => exact absurd ((kDig_zero h i).mpr hd) z
                  | some g => rfl
                rw [isn, Bool.false_or, e3] at rest
                simp at rest
      have sh : fShown m = false := by
        cases q : fShown m
        · rfl
        · rw [q] at nd
          cases nd
      rw [nd, if_neg Bool.false_ne_true]
      rw [sh, if_neg Bool.false_ne_true] at chs
      refine ⟨by omega, by omega, fun bar n2 _ => ?_, fun z => absurd z t3⟩
      have ige : 1 ≤ i := by
        refine Nat.pos_of_ne_zero fun z => n2 ?_
        unfold stl
        dsimp only
        have dF : d = false := by
          cases d
          · rfl
          · rw [Bool.or_true] at nd
            cases nd
        rw [dF, if_neg Bool.false_ne_true, if_pos (by rw [bar, decide_eq_true z]; rfl)]
      have pe := pow_even ige
      have ev : p.chord % 2 = 0 := by
        refine r.ev bar (fun q => ?_) (fun q => ?_)
        · -- the bar stands alone: no key with a digit may come, and others leave it settled
          unfold stl at n2
          dsimp only at n2
          split at n2
          · rename_i dd
            rw [dd, Bool.or_true] at nd
            cases nd
          · rename_i dd
            split at n2
            · exact n2 rfl
            · split at n2
              · exact n2 q
              · rename_i z
                rw [if_neg dd] at rest
                have isn : (k.digitOf i).isNone = false := by
                  cases hd : k.digitOf i with
                  | none => exact absurd ((kDig_zero h i).mpr hd) z
                  | some g => rfl
                rw [isn, Bool.false_or, q] at rest
                simp at rest
        · have := s3.mp q
          rw [sh] at this
          cases this
      omega
  refine ⟨fun j => ?_, ?_, ?_, settle.1, settle.2, ?_, num.1, num.2.1, num.2.2.1, num.2.2.2⟩
  · show (allLt (m.more i d) j = true ∧ (m.dash = true → k.left + k.middle ≤ j)) ↔ i + 1 ≤ j
    have ea : allLt (m.more i d) j = (allLt m j && decide (i < j)) := by
      unfold allLt Mid.more
      rw [List.all_append]
      simp
    rw [ea, Bool.and_eq_true, decide_eq_true_eq]
    constructor
    · rintro ⟨⟨_, q⟩, _⟩
      exact q
    · intro q
      refine ⟨⟨?_, q⟩, fun z => ?_⟩
      · unfold allLt
        rw [List.all_eq_true]
        intro y hy
        have := keysLt y hy
        exact decide_eq_true (by omega)
      · have := lowi.2 z
        omega
  · show decide (k.left ≤ i) = (m.dash || anyMid k (m.more i d))
    rw [eM]
    have hro := r.ro
    rcases (show i < k.left ∨ (k.left ≤ i ∧ i < k.left + k.middle) ∨ k.left + k.middle ≤ i by omega) with q | q | q
    · rw [decide_eq_false (by omega)]
      have b : k.bank i = 0 := (bank_left k i).mpr q
      have dF : m.dash = false := by
        cases z : m.dash
        · rfl
        · have := lowi.2 z
          omega
      have mF : anyMid k m = false := by
        unfold anyMid
        rw [List.any_eq_false]
        intro y hy z
        have := (bank_mid k y.1).mp (eq_of_beq z)
        have := keysLt y hy
        omega
      rw [dF, mF, b]
      rfl
    · rw [decide_eq_true (by omega)]
      have b : k.bank i = 1 := (bank_mid k i).mpr q
      rw [b]
      simp
    · rw [decide_eq_true (by omega)]
      have ro : p.ro = true := by
        cases z : p.ro
        · unfold endM at en
          rw [z, if_neg Bool.false_ne_true] at en
          omega
        · rfl
      rw [ro] at hro
      rw [← Bool.or_assoc, ← hro, Bool.true_or]
  · intro dF roF y hy
    have dF' : m.dash = false := dF
    have lt : i < k.left := by
      have : decide (k.left ≤ i) = false := roF
      have := of_decide_eq_false this
      omega
    rcases List.mem_append.mp hy with q | q
    · have := keysLt y q
      exact (bank_left k y.1).mpr (by omega)
    · rw [List.mem_singleton] at q
      subst q
      exact (bank_left k i).mpr lt
  · show true = over? k (m.more i d)
    unfold over? Mid.more
    dsimp only
    have e1 : (m.keys ++ [(i, d)]).isEmpty = false := by cases m.keys <;> rfl
    rw [e1, Bool.not_false, Bool.true_and]
    cases hd : m.dash with
    | false => rfl
    | true =>
      have := lowi.2 hd
      have b : k.bank i = 2 := (bank_right k i).mpr this
      rw [List.any_append]
      simp [b]
end
end Kx

-- XRead2
/-! Reading a text: mark by mark, as the program does it, against the document's model, which goes character by character. -/
namespace Kx
open CdKeys

def sharedL : List Nat → List Nat → Nat
  | a :: r, b :: s => if a = b then sharedL r s + 1 else 0
  | _, _ => 0
theorem sharedL_le : ∀ a b : List Nat, sharedL a b ≤ b.length
  | [], b => Nat.zero_le _
  | _ :: _, [] => Nat.le_refl _
  | a :: r, b :: s => by
    unfold sharedL
    split
    · exact Nat.succ_le_succ (sharedL_le r s)
    · exact Nat.zero_le _
/-- how far it goes on: agreeing so far, it goes on just if the next ones are there and the same -/
theorem shared_step : ∀ (n : Nat) (a b : List Nat), n ≤ sharedL a b → (n < sharedL a b ↔ n < b.length ∧ n < a.length ∧ ∃ x, a[n]? = some x ∧ b[n]? = some x)
  | n, [], b, h => by
    have z : sharedL [] b = 0 := by cases b <;> rfl
    rw [z] at h ⊢
    refine ⟨fun q => absurd q (Nat.not_lt_zero _), fun q => ?_⟩
    have := q.2.1
    simp at this
  | n, _ :: _, [], h => by
    refine ⟨fun q => absurd q (Nat.not_lt_zero _), fun q => ?_⟩
    have := q.1
    simp at this
  | 0, a :: r, b :: s, h => by
    unfold sharedL
    by_cases c : a = b
    · rw [if_pos c]
      exact ⟨fun _ => ⟨by simp, by simp, a, rfl, by rw [c]; rfl⟩, fun _ => Nat.succ_pos _⟩
    · rw [if_neg c]
      refine ⟨fun q => absurd q (Nat.not_lt_zero _), fun ⟨_, _, x, hx, hy⟩ => ?_⟩
      have e1 := Option.some.inj hx
      have e2 := Option.some.inj hy
      exact absurd (e1.trans e2.symm) c
  | n + 1, a :: r, b :: s, h => by
    unfold sharedL at h ⊢
    by_cases c : a = b
    · rw [if_pos c] at h ⊢
      have ih := shared_step n r s (by omega)
      rw [List.length_cons, List.length_cons, List.getElem?_cons_succ, List.getElem?_cons_succ, Nat.succ_lt_succ_iff, Nat.succ_lt_succ_iff, Nat.succ_lt_succ_iff]
      exact ih
    · rw [if_neg c] at h
      omega

/-! ### one mark -/
def u8b (c : Nat) : List Nat := (Cd.utf8 c).map UInt8.toNat
/-- the first mark that stands there as a whole; else how far the longest goes -/
def pmark (b : List Nat) : List (Nat × Nat × Nat) → Nat → Nat × Option (Nat × Nat × Nat)
  | [], l => (l, none)
  | x :: r, l => if sharedL b (u8b x.1) = (u8b x.1).length then (sharedL b (u8b x.1), some x) else pmark b r (if l < sharedL b (u8b x.1) then sharedL b (u8b x.1) else l)
/-- the program's reading: the chords, or the fault's place -/
def readM (k : Keyboard) : Nat → PartM → List Nat → List Nat → Nat → Option (List Nat) × Nat
  | 0, _, _, _, place => (none, place)
  | f + 1, p, chords, b, place => match b with
    | [] => if p.complete = true then (some (chords ++ [p.chord]), 0) else (none, place)
    | a :: r =>
      if (decide (a = 47) && (p.complete && decide (chords.length < 9))) = true then readM k f part0 (chords ++ [p.chord]) r (place + 1)
      else if (decide (a = 45) && mayDashM k p) = true then readM k f (dashM k p) chords r (place + 1)
      else match pmark (a :: r) (marksM k p) 0 with
        | (n, some x) => readM k f (pressM k p x.2.1 x.2.2) chords ((a :: r).drop n) (place + n)
        | (n, none) => (none, place + n)

theorem sharedL_full : ∀ (b m : List Nat), sharedL b m = m.length ↔ ∃ r, b = m ++ r
  | b, [] => by
    cases b with
    | nil => exact ⟨fun _ => ⟨[], rfl⟩, fun _ => rfl⟩
    | cons x t => exact ⟨fun _ => ⟨x :: t, rfl⟩, fun _ => rfl⟩
  | [], y :: s => ⟨fun h => (by cases h), fun ⟨r, h⟩ => (by cases h)⟩
  | x :: t, y :: s => by
    unfold sharedL
    by_cases c : x = y
    · rw [if_pos c, List.length_cons, Nat.add_right_cancel_iff, sharedL_full t s]
      constructor
      · rintro ⟨r, h⟩
        exact ⟨r, by rw [c, h]; rfl⟩
      · rintro ⟨r, h⟩
        exact ⟨r, (List.cons.inj h).2⟩
    · rw [if_neg c]
      constructor
      · intro h
        cases h
      · rintro ⟨r, h⟩
        exact absurd (List.cons.inj h).1 c
theorem agree_is : ∀ (m b : Cd.Bytes), agree m b = sharedL (b.map UInt8.toNat) (m.map UInt8.toNat)
  | [], b => by cases b <;> rfl
  | _ :: _, [] => rfl
  | x :: t, y :: s => by
    show (if x = y then agree t s + 1 else 0) = (if y.toNat = x.toNat then sharedL (s.map UInt8.toNat) (t.map UInt8.toNat) + 1 else 0)
    by_cases c : x = y
    · rw [if_pos c, if_pos (by rw [c]), agree_is t s]
    · rw [if_neg c, if_neg fun z => c (UInt8.toNat_inj.mp z.symm)]
theorem map_toNat_inj : ∀ {a b : Cd.Bytes}, a.map UInt8.toNat = b.map UInt8.toNat → a = b
  | [], [], _ => rfl
  | [], _ :: _, h => by cases h
  | _ :: _, [], h => by cases h
  | x :: t, y :: s, h => by
    have e := List.cons.inj h
    rw [UInt8.toNat_inj.mp e.1, map_toNat_inj e.2]
theorem map_prefix {b m : Cd.Bytes} {r : List Nat} (h : b.map UInt8.toNat = m.map UInt8.toNat ++ r) : ∃ s, b = m ++ s ∧ r = s.map UInt8.toNat := by
  refine ⟨b.drop m.length, ?_, ?_⟩
  · have t := congrArg (fun l => l.take m.length) h
    rw [List.take_left' (List.length_map _), ← List.map_take] at t
    have t' := map_toNat_inj t
    conv => lhs; rw [← List.take_append_drop m.length b, t']
  · have t := congrArg (fun l => l.drop m.length) h
    rw [List.drop_left' (List.length_map _), ← List.map_drop] at t
    exact t.symm
/-- what pmark finds -/
theorem pmark_some : ∀ {L : List (Nat × Nat × Nat)} {b : List Nat} {l n : Nat} {x : Nat × Nat × Nat}, pmark b L l = (n, some x) →
    ∃ pre post, L = pre ++ x :: post ∧ (∀ y ∈ pre, sharedL b (u8b y.1) ≠ (u8b y.1).length) ∧ sharedL b (u8b x.1) = (u8b x.1).length ∧ n = (u8b x.1).length
  | [], _, _, _, _, h => by cases h
  | y :: r, b, l, n, x, h => by
    unfold pmark at h
    by_cases c : sharedL b (u8b y.1) = (u8b y.1).length
    · rw [if_pos c] at h
      have e1 := congrArg Prod.fst h
      have e2 := Option.some.inj (congrArg Prod.snd h)
      subst e2
      exact ⟨[], r, rfl, fun z hz => (by cases hz), c, by rw [← c]; exact e1.symm⟩
    · rw [if_neg c] at h
      obtain ⟨pre, post, e, f, g, i⟩ := pmark_some h
      refine ⟨y :: pre, post, by rw [e]; rfl, fun z hz => ?_, g, i⟩
      rcases List.mem_cons.mp hz with q | q
      · rw [q]; exact c
      · exact f z q
theorem pmark_none : ∀ {L : List (Nat × Nat × Nat)} {b : List Nat} {l n : Nat}, pmark b L l = (n, none) →
    (∀ y ∈ L, sharedL b (u8b y.1) ≠ (u8b y.1).length) ∧ n = (L.map fun y => sharedL b (u8b y.1)).foldl max l
  | [], _, _, _, h => ⟨fun y hy => (by cases hy), (congrArg Prod.fst h).symm⟩
  | y :: r, b, l, n, h => by
    unfold pmark at h
    by_cases c : sharedL b (u8b y.1) = (u8b y.1).length
    · rw [if_pos c] at h
      cases congrArg Prod.snd h
    · rw [if_neg c] at h
      obtain ⟨f, g⟩ := pmark_none h
      refine ⟨fun z hz => ?_, ?_⟩
      · rcases List.mem_cons.mp hz with q | q
        · rw [q]; exact c
        · exact f z q
      · rw [g, List.map_cons, List.foldl_cons]
        congr 1
        show _ = max l (sharedL b (u8b y.1))
        rw [Nat.max_def]
        split <;> split <;> omega

/-- characters of choices: marks of keys, so no - and no /, and there are such characters -/
theorem choice_char {k : Keyboard} {m : Mid} (h : k.ok = true) {x : Nat × Nat × Bool} (hx : x ∈ choices k m) : Cd.isChar x.1 = true ∧ x.1 ≠ 45 ∧ x.1 ≠ 47 := by
  obtain ⟨hi, hm, h1, h2⟩ := choice_spec hx
  obtain ⟨c, i, d⟩ := x
  dsimp only at hi hm h1 h2 ⊢
  cases d with
  | true =>
    have e := h1 rfl
    have isS : (k.digitOf i).isSome = true := by
      unfold mayNext at hm
      rw [Bool.and_eq_true, Bool.and_eq_true] at hm
      have q := hm.2.2
      rw [if_pos rfl, Bool.and_eq_true] at q
      exact q.1
    obtain ⟨g, hg⟩ := Option.isSome_iff_exists.mp isS
    have rg := digit_range h hg
    rw [hg] at e
    have e' : c = g := e
    have g1 : 48 ≤ c := e' ▸ rg.2.1
    have g2 : c ≤ 57 := e' ▸ rg.2.2.1
    refine ⟨?_, by omega, by omega⟩
    unfold Cd.isChar
    rw [decide_eq_true (show c < 55296 by omega)]
    rfl
  | false =>
    have e := h2 rfl
    have h' : i < k.keys.length := hi
    have hx : k.keys[i]? = some k.keys[i] := List.getElem?_eq_getElem h'
    have f := fine_at h hx
    have el : k.labelOf i = k.keys[i].label := by
      unfold Keyboard.labelOf
      rw [hx]
      rfl
    rw [e, el]
    unfold keyFine at f
    rw [Bool.and_eq_true] at f
    have f1 := f.1
    split at f1
    · rw [Bool.and_eq_true] at f1
      have := eq_of_beq f1.1
      rw [this]
      decide
    · unfold mayLabel Cd.isShown at f1
      rw [Bool.and_eq_true, Bool.and_eq_true, Bool.and_eq_true] at f1
      refine ⟨f1.1.1, fun z => ?_, fun z => ?_⟩
      · have q := f1.2
        rw [Bool.and_eq_true] at q
        have := q.2
        rw [z] at this
        exact absurd this (by decide)
      · have q := f1.2
        rw [Bool.and_eq_true] at q
        have := q.2
        rw [z] at this
        exact absurd this (by decide)
theorem foldl_max_zero (l : List Nat) (a : Nat) : (l ++ [0]).foldl max a = l.foldl max a := by
  rw [List.foldl_append]
  show max _ 0 = _
  exact Nat.max_zero _
/-- **the program reads as the model does** -/
theorem readM_is {k : Keyboard} (h : k.ok = true) (hk : k.left + k.middle ≤ k.size) : ∀ (f : Nat) (p : PartM) (m : Mid) (b : Cd.Bytes) (place : Nat), Rel k p m → b.length + 1 ≤ f →
    readM k f p m.done (b.map UInt8.toNat) place = match readFrom k f place m b with
      | .ok o => (some o, 0)
      | .error q => (none, q)
  | 0, _, _, _, _, _, hf => by omega
  | f + 1, p, m, [], place, r, hf => by
    show (if p.complete = true then (some (m.done ++ [p.chord]), 0) else (none, place)) = _
    unfold readFrom
    rw [r.cp, r.ch]
    dsimp only
    by_cases c : over? k m = true
    · rw [if_pos c, if_pos c]
    · rw [if_neg c, if_neg c]
  | f + 1, p, m, a :: t, place, r, hf => by
    have hf' : (a :: t).length ≤ f := by omega
    have mk := marks_is r h hk
    have md := mayDash_is r h hk
    -- the two sides, one step opened
    have lhs : readM k (f + 1) p m.done ((a :: t).map UInt8.toNat) place =
        if (decide (a.toNat = 47) && (p.complete && decide (m.done.length < 9))) = true then readM k f part0 (m.done ++ [p.chord]) (t.map UInt8.toNat) (place + 1)
        else if (decide (a.toNat = 45) && mayDashM k p) = true then readM k f (dashM k p) m.done (t.map UInt8.toNat) (place + 1)
        else match pmark ((a :: t).map UInt8.toNat) (marksM k p) 0 with
          | (n, some x) => readM k f (pressM k p x.2.1 x.2.2) m.done (((a :: t).map UInt8.toNat).drop n) (place + n)
          | (n, none) => (none, place + n) := rfl
    have rhs : readFrom k (f + 1) place m (a :: t) = match (Cd.firstChar (a :: t)).bind fun (x : Cd.Char_ × Cd.Bytes) => (nextMid k m x.1).map fun (n : Mid) => (n, x.2) with
      | some (n, r) => readFrom k f (place + ((a :: t).length - r.length)) n r
      | none => .error (place + begun k m (a :: t)) := rfl
    rw [lhs, rhs]
    have one : ∀ v : Nat, v < 128 → a.toNat = v → Cd.firstChar (a :: t) = some (v, t) := by
      intro v hv e
      unfold Cd.firstChar
      dsimp only
      rw [if_pos (by omega), e]
    have l1 : (a :: t).length - t.length = 1 := by rw [List.length_cons]; omega
    by_cases c1 : (decide (a.toNat = 47) && (p.complete && decide (m.done.length < 9))) = true
    · rw [if_pos c1]
      rw [Bool.and_eq_true, Bool.and_eq_true, decide_eq_true_eq, decide_eq_true_eq] at c1
      have nm : nextMid k m 47 = some ⟨m.done ++ [m.chord], [], false⟩ := by
        unfold nextMid
        rw [if_neg (by decide), if_pos (by decide), if_pos ⟨r.cp ▸ c1.2.1, by show _ < 10; omega⟩]
      rw [one 47 (by decide) c1.1]
      dsimp only [Option.bind]
      rw [nm]
      dsimp only [Option.map]
      rw [l1, r.ch]
      exact readM_is h hk f part0 ⟨m.done ++ [m.chord], [], false⟩ t (place + 1) (rel0 k _) hf'
    · rw [if_neg c1]
      by_cases c2 : (decide (a.toNat = 45) && mayDashM k p) = true
      · rw [if_pos c2]
        rw [Bool.and_eq_true, decide_eq_true_eq, ← md] at c2
        have nm : nextMid k m 45 = some { m with dash := true } := by
          unfold nextMid
          rw [if_pos (by decide), if_pos c2.2]
        have dF : m.dash = false := by
          have q := c2.2
          unfold mayDash at q
          rw [Bool.and_eq_true] at q
          simpa using q.1
        have roF : p.ro = false := by
          have q := c2.2
          rw [md] at q
          unfold mayDashM at q
          rw [Bool.and_eq_true] at q
          simpa using q.1
        rw [one 45 (by decide) c2.1]
        dsimp only [Option.bind]
        rw [nm]
        dsimp only [Option.map]
        rw [l1]
        exact readM_is h hk f (dashM k p) { m with dash := true } t (place + 1) (rel_dash r hk dF roF) hf'
      · rw [if_neg c2]
        cases hp : pmark ((a :: t).map UInt8.toNat) (marksM k p) 0 with
        | mk n ox =>
          cases ox with
          | some x =>
            dsimp only
            obtain ⟨pre, post, eL, hpre, full, hn⟩ := pmark_some hp
            rw [mk] at eL
            -- x is the mark of a choice y, the first whose character stands there
            obtain ⟨cs1, cs2, ec, e1, e2⟩ := List.map_eq_append_iff.mp eL
            obtain ⟨y, cs3, ec2, e3, e4⟩ := List.map_eq_cons_iff.mp e2
            have ym : y ∈ choices k m := by
              rw [ec, ec2]
              exact List.mem_append_right _ List.mem_cons_self
            have ych := choice_char h ym
            have xc : x.1 = y.1 := by rw [← e3]; rfl
            obtain ⟨rst, hr⟩ := (sharedL_full _ _).mp full
            rw [xc] at hr
            obtain ⟨s, hs, hrs⟩ := map_prefix hr
            have fc : Cd.firstChar (a :: t) = some (y.1, s) := by
              rw [hs]
              exact first_utf8 ych.1 s
            have fnd : (choices k m).find? (fun (z : Cd.Char_ × Nat × Bool) => z.1 == y.1) = some y := by
              rw [ec, ec2, List.find?_append]
              have none1 : cs1.find? (fun (z : Cd.Char_ × Nat × Bool) => z.1 == y.1) = none := by
                rw [List.find?_eq_none]
                intro z hz q
                have ez : z.1 = y.1 := eq_of_beq q
                have := hpre (tellM k p z) (by rw [← e1]; exact List.mem_map_of_mem hz)
                refine this ?_
                show sharedL _ (u8b z.1) = (u8b z.1).length
                rw [ez, ← xc]
                exact full
              rw [none1, Option.none_or]
              rw [List.find?_cons_of_pos (p := fun (z : Cd.Char_ × Nat × Bool) => z.1 == y.1) (beq_self_eq_true _)]
            have nm : nextMid k m y.1 = some (m.more y.2.1 y.2.2) := by
              unfold nextMid
              rw [if_neg (show ¬ y.1 = DASH from ych.2.1), if_neg (show ¬ y.1 = SLASH from ych.2.2), fnd]
              rfl
            rw [fc]
            dsimp only [Option.bind]
            rw [nm]
            dsimp only [Option.map]
            have ul : (u8b x.1).length = (Cd.utf8 y.1).length := by rw [xc]; exact List.length_map _
            have ulp : 1 ≤ (Cd.utf8 y.1).length := by
              unfold Cd.utf8
              split
              · exact Nat.le_refl _
              · split
                · exact (by show 1 ≤ 2; decide)
                · split
                  · exact (by show 1 ≤ 3; decide)
                  · exact (by show 1 ≤ 4; decide)
            have len : (a :: t).length = (Cd.utf8 y.1).length + s.length := by rw [hs, List.length_append]
            have pl : (a :: t).length - s.length = n := by rw [hn, ul]; omega
            have dr : ((a :: t).map UInt8.toNat).drop n = s.map UInt8.toNat := by
              rw [hr, hn, xc]
              show (u8b y.1 ++ rst).drop (u8b y.1).length = _
              rw [List.drop_left, hrs]
            have xk : x.2.1 = y.2.1 := by rw [← e3]; rfl
            have xs : x.2.2 = stl k p y := by rw [← e3]; rfl
            rw [pl, dr, xk, xs]
            exact readM_is h hk f _ (m.more y.2.1 y.2.2) s (place + n) (rel_press r h hk ym) (by omega)
          | none =>
            dsimp only
            obtain ⟨hno, hn⟩ := pmark_none hp
            rw [mk] at hno hn
            -- no character that may come stands there
            have nob : ((Cd.firstChar (a :: t)).bind fun (x : Cd.Char_ × Cd.Bytes) => (nextMid k m x.1).map fun (n : Mid) => (n, x.2)) = none := by
              cases fc : Cd.firstChar (a :: t) with
              | none => rfl
              | some cs =>
                obtain ⟨c, s⟩ := cs
                dsimp only [Option.bind]
                have snd := first_sound fc
                have nm : nextMid k m c = none := by
                  unfold nextMid
                  by_cases d1 : c = DASH
                  · rw [if_pos d1]
                    have ad : a.toNat = 45 := by
                      rw [d1] at snd
                      have : a = UInt8.ofNat 45 := (List.cons.inj snd).1
                      rw [this]
                      rfl
                    rw [if_neg]
                    intro z
                    rw [md] at z
                    rw [ad, z] at c2
                    exact c2 rfl
                  · rw [if_neg d1]
                    by_cases d2 : c = SLASH
                    · rw [if_pos d2]
                      have ad : a.toNat = 47 := by
                        rw [d2] at snd
                        have : a = UInt8.ofNat 47 := (List.cons.inj snd).1
                        rw [this]
                        rfl
                      rw [if_neg]
                      rintro ⟨z1, z2⟩
                      rw [← r.cp] at z1
                      have z3 : m.done.length < 9 := by
                        have : m.done.length + 1 < 10 := z2
                        omega
                      rw [ad, z1, decide_eq_true z3] at c1
                      exact c1 rfl
                    · rw [if_neg d2]
                      cases fd : (choices k m).find? (fun (z : Cd.Char_ × Nat × Bool) => z.1 == c) with
                      | none => rfl
                      | some y =>
                        exfalso
                        have ym := List.mem_of_find?_eq_some fd
                        have yc : y.1 = c := eq_of_beq (List.find?_some (p := fun (z : Cd.Char_ × Nat × Bool) => z.1 == c) fd)
                        refine hno (tellM k p y) (List.mem_map_of_mem ym) ?_
                        show sharedL ((a :: t).map UInt8.toNat) (u8b y.1) = (u8b y.1).length
                        rw [sharedL_full]
                        refine ⟨s.map UInt8.toNat, ?_⟩
                        rw [snd, yc, List.map_append]
                        rfl
                rw [nm]
                rfl
            rw [nob]
            dsimp only
            congr 2
            -- how far it goes
            rw [hn, List.map_map]
            unfold begun nexts
            rw [List.map_append, List.map_append, List.map_map]
            have e0 : (choices k m).map ((fun y => sharedL ((a :: t).map UInt8.toNat) (u8b y.1)) ∘ tellM k p) = (choices k m).map ((fun (c : Cd.Char_) => agree (Cd.utf8 c) (a :: t)) ∘ fun (x : Cd.Char_ × Nat × Bool) => x.1) := by
              refine List.map_congr_left fun y _ => ?_
              show sharedL _ (u8b y.1) = agree (Cd.utf8 y.1) (a :: t)
              rw [agree_is]
              rfl
            rw [e0]
            generalize (choices k m).map ((fun (c : Cd.Char_) => agree (Cd.utf8 c) (a :: t)) ∘ fun (x : Cd.Char_ × Nat × Bool) => x.1) = L
            have z45 : (List.map (fun (c : Cd.Char_) => agree (Cd.utf8 c) (a :: t)) (if mayDash k m = true then [DASH] else [])) = (if mayDash k m = true then [0] else []) := by
              by_cases q : mayDash k m = true
              · rw [if_pos q, if_pos q, List.map_cons, List.map_nil]
                congr 1
                have ne : ¬ UInt8.ofNat 45 = a := by
                  intro z
                  rw [md] at q
                  rw [← z, q] at c2
                  exact c2 rfl
                show (if UInt8.ofNat 45 = a then _ else 0) = 0
                rw [if_neg ne]
              · rw [if_neg q, if_neg q]
                rfl
            have z47 : (List.map (fun (c : Cd.Char_) => agree (Cd.utf8 c) (a :: t)) (if over? k m = true ∧ m.done.length + 1 < Cd.LONGEST then [SLASH] else [])) = (if over? k m = true ∧ m.done.length + 1 < Cd.LONGEST then [0] else []) := by
              by_cases q : over? k m = true ∧ m.done.length + 1 < Cd.LONGEST
              · rw [if_pos q, if_pos q, List.map_cons, List.map_nil]
                congr 1
                have ne : ¬ UInt8.ofNat 47 = a := by
                  intro z
                  have q1 := q.1
                  rw [← r.cp] at q1
                  have z3 : m.done.length < 9 := by
                    have : m.done.length + 1 < 10 := q.2
                    omega
                  rw [← z, q1, decide_eq_true z3] at c1
                  exact c1 rfl
                show (if UInt8.ofNat 47 = a then _ else 0) = 0
                rw [if_neg ne]
              · rw [if_neg q, if_neg q]
                rfl
            rw [z45, z47]
            by_cases q1 : mayDash k m = true
            · rw [if_pos q1]
              by_cases q2 : over? k m = true ∧ m.done.length + 1 < Cd.LONGEST
              · rw [if_pos q2, ← List.append_assoc, foldl_max_zero, foldl_max_zero]
              · rw [if_neg q2, List.append_nil, foldl_max_zero]
            · rw [if_neg q1]
              by_cases q2 : over? k m = true ∧ m.done.length + 1 < Cd.LONGEST
              · rw [if_pos q2, List.nil_append, foldl_max_zero]
              · rw [if_neg q2, List.nil_append, List.append_nil]
end Kx

-- XCrc
/-! The check of 16 bits: a byte put in at once, at the top, and eight turns. -/
namespace Kx
open CdKeys

theorem crc_lt (r : Nat) (b : Bool) : crcBit r b < 65536 := by
  unfold crcBit
  dsimp only
  have h : r * 2 % 65536 < 2 ^ 16 := Nat.mod_lt _ (by decide)
  split
  · exact Nat.xor_lt_two_pow h (by decide)
  · exact h
theorem dbl_xor (a b : Nat) : (a ^^^ b) * 2 % 65536 = (a * 2 % 65536) ^^^ (b * 2 % 65536) := by
  have h := Nat.shiftLeft_xor_distrib (a := a) (b := b) (i := 1)
  rw [Nat.shiftLeft_eq, Nat.shiftLeft_eq, Nat.shiftLeft_eq] at h
  have h' : (a ^^^ b) * 2 = a * 2 ^^^ b * 2 := h
  rw [h']
  exact Nat.xor_mod_two_pow (n := 16)
theorem top15 {r : Nat} (h : r < 65536) : decide (32768 ≤ r) = r.testBit 15 := by
  rw [Nat.testBit_eq_decide_div_mod_eq]
  refine decide_eq_decide.mpr ?_
  show 32768 ≤ r ↔ r / 32768 % 2 = 1
  omega
theorem turn_xor {y z : Nat} (hy : y < 65536) (hz : z < 65536) : crcBit (y ^^^ z) false = crcBit y (decide (32768 ≤ z)) ^^^ (z * 2 % 65536) := by
  have hyz : y ^^^ z < 65536 := Nat.xor_lt_two_pow (n := 16) hy hz
  unfold crcBit
  dsimp only
  rw [top15 hyz, Nat.testBit_xor, dbl_xor, ← top15 hy, ← top15 hz]
  have c : ((decide (32768 ≤ y) ^^ decide (32768 ≤ z)) != false) = (decide (32768 ≤ y) != decide (32768 ≤ z)) := by
    cases decide (32768 ≤ y) <;> cases decide (32768 ≤ z) <;> rfl
  rw [c]
  split
  · rw [Nat.xor_assoc, Nat.xor_assoc, Nat.xor_comm (z * 2 % 65536) 0x1021]
  · rfl
/-- one turn of the check -/
def crcTurn (c : Nat) : Nat := crcBit c false
def crcTurns : Nat → Nat → Nat
  | 0, c => c
  | n + 1, c => crcTurn (crcTurns n c)
theorem byte_bit {x i : Nat} (hx : x < 256) (hi : i < 8) : x.testBit (7 - i) = decide (32768 ≤ x * 2 ^ (8 + i) % 65536) := by
  rw [Nat.testBit_eq_decide_div_mod_eq]
  refine decide_eq_decide.mpr ?_
  have h : i = 0 ∨ i = 1 ∨ i = 2 ∨ i = 3 ∨ i = 4 ∨ i = 5 ∨ i = 6 ∨ i = 7 := by omega
  rcases h with rfl | rfl | rfl | rfl | rfl | rfl | rfl | rfl
  · show x / 128 % 2 = 1 ↔ 32768 ≤ x * 256 % 65536
    omega
  · show x / 64 % 2 = 1 ↔ 32768 ≤ x * 512 % 65536
    omega
  · show x / 32 % 2 = 1 ↔ 32768 ≤ x * 1024 % 65536
    omega
  · show x / 16 % 2 = 1 ↔ 32768 ≤ x * 2048 % 65536
    omega
  · show x / 8 % 2 = 1 ↔ 32768 ≤ x * 4096 % 65536
    omega
  · show x / 4 % 2 = 1 ↔ 32768 ≤ x * 8192 % 65536
    omega
  · show x / 2 % 2 = 1 ↔ 32768 ≤ x * 16384 % 65536
    omega
  · show x / 1 % 2 = 1 ↔ 32768 ≤ x * 32768 % 65536
    omega
/-- the first i bits taken one by one, against i turns of the whole -/
theorem crc_part {r x : Nat} (hr : r < 65536) (hx : x < 256) : ∀ i, i ≤ 8 →
    (List.range i).foldl (fun (y : Nat) (i : Nat) => crcBit y (x.testBit (7 - i))) r < 65536 ∧
    crcTurns i (r ^^^ x * 256) = (List.range i).foldl (fun (y : Nat) (i : Nat) => crcBit y (x.testBit (7 - i))) r ^^^ (x * 2 ^ (8 + i) % 65536)
  | 0, _ => by
    refine ⟨hr, ?_⟩
    have e : x * 2 ^ (8 + 0) % 65536 = x * 256 := by
      show x * 256 % 65536 = _
      omega
    rw [e]
    rfl
  | i + 1, h => by
    obtain ⟨l, e⟩ := crc_part hr hx i (by omega)
    rw [List.range_succ, List.foldl_append]
    show crcBit _ (x.testBit (7 - i)) < 65536 ∧ crcTurn (crcTurns i (r ^^^ x * 256)) = crcBit _ (x.testBit (7 - i)) ^^^ _
    refine ⟨crc_lt _ _, ?_⟩
    rw [e]
    unfold crcTurn
    rw [turn_xor l (Nat.mod_lt _ (by decide)), ← byte_bit hx (by omega)]
    congr 1
    rw [show 8 + (i + 1) = (8 + i) + 1 by omega, Nat.pow_succ]
    rw [← Nat.mul_assoc]
    omega
theorem crc_byte {r : Nat} (hr : r < 65536) (x : UInt8) : crcByte r x = crcTurns 8 (r ^^^ x.toNat * 256) := by
  have hx : x.toNat < 256 := x.toNat_lt
  have h := (crc_part hr hx 8 (by omega)).2
  rw [h]
  have z : x.toNat * 2 ^ (8 + 8) % 65536 = 0 := by
    show x.toNat * 65536 % 65536 = 0
    omega
  rw [z, Nat.xor_zero]
  rfl
theorem crc16_lt (b : Cd.Bytes) : crc16 b < 65536 := by
  unfold crc16
  have : ∀ (b : Cd.Bytes) (r : Nat), r < 65536 → b.foldl crcByte r < 65536 := by
    intro b
    induction b with
    | nil => exact fun r h => h
    | cons x t ih =>
      intro r h
      refine ih _ ?_
      exact (crc_part h x.toNat_lt 8 (by omega)).1
  exact this b _ (by decide)
/-- one turn, as programs tell it -/
theorem turn_is {c : Nat} (h : c < 65536) : crcTurn c = if 32768 ≤ c then (c * 2 - 65536) ^^^ 4129 else c * 2 := by
  unfold crcTurn crcBit
  dsimp only
  by_cases q : 32768 ≤ c
  · rw [if_pos q, decide_eq_true q, if_pos (by rfl)]
    rw [show c * 2 % 65536 = c * 2 - 65536 by omega]
  · rw [if_neg q, decide_eq_false q, if_neg (by decide)]
    omega
end Kx

-- XLine
/-! Stage 2's specification in steps: chords' parity, rows made one, bytes one by one. -/
namespace Kx
open CdKeys KeysCalls

/-! ### an odd number of keys -/
def cntB : Nat → Nat → Nat
  | 0, _ => 0
  | n + 1, c => c % 2 + cntB n (c / 2)
theorem cnt_bits : ∀ (n c : Nat), ((List.range n).filter fun (i : Nat) => c.testBit i).length = cntB n c
  | 0, _ => rfl
  | n + 1, c => by
    have ih := cnt_bits n (c / 2)
    rw [List.range_succ_eq_map, List.filter_cons, List.filter_map, Nat.testBit_zero]
    have e : ((fun (i : Nat) => c.testBit i) ∘ Nat.succ) = fun (i : Nat) => (c / 2).testBit i := by
      funext i
      exact Nat.testBit_add_one c i
    rw [e]
    unfold cntB
    by_cases h : c % 2 = 1
    · rw [if_pos (decide_eq_true h), List.length_cons, List.length_map, ih, h, Nat.add_comm]
    · rw [if_neg (by rw [decide_eq_true_eq]; exact h), List.length_map, ih]
      omega
theorem odd_cnt (c : Nat) : odd c = cntB 48 c % 2 := by
  unfold odd
  rw [← cnt_bits]
  rfl

/-! ### rows made one -/
theorem event_nums : ∀ {ns : List Nat} {l : List Event}, eventsIn ns = some l → l.flatMap eventNums = ns
  | [], l, h => by
    cases h
    rfl
  | [_], _, h => by cases h
  | t :: k :: r, l, h => by
    have h' : (eventsIn r).map (fun l : List Event => (⟨t, k / 2, k % 2 == 1⟩ : Event) :: l) = some l := h
    rw [Option.map_eq_some_iff] at h'
    obtain ⟨m, hm, rfl⟩ := h'
    rw [List.flatMap_cons, event_nums hm]
    show t :: (2 * (k / 2) + (if (k % 2 == 1) = true then 1 else 0)) :: r = t :: k :: r
    congr 2
    by_cases c : k % 2 = 1
    · rw [if_pos (by rw [c]; rfl)]
      omega
    · rw [if_neg (by
        intro z
        exact c (beq_iff_eq.mp z))]
      omega
def ordFrom : Nat → List Event → Bool
  | _, [] => true
  | last, e :: r => decide (last ≤ e.tick) && ordFrom e.tick r
theorem ord_from : ∀ (l : List Event) (last : Nat), ordFrom last l = true ↔ (∀ e ∈ l, last ≤ e.tick) ∧ l.Pairwise (fun (a b : Event) => a.tick ≤ b.tick)
  | [], last => by
    show (true = true) ↔ _
    simp
  | e :: r, last => by
    have ih := ord_from r e.tick
    unfold ordFrom
    rw [Bool.and_eq_true, decide_eq_true_eq, ih, List.pairwise_cons]
    constructor
    · rintro ⟨h1, h2, h3⟩
      refine ⟨fun x hx => ?_, h2, h3⟩
      rcases List.mem_cons.mp hx with z | z
      · subst z
        exact h1
      · exact Nat.le_trans h1 (h2 x z)
    · rintro ⟨h1, h2, h3⟩
      exact ⟨h1 e List.mem_cons_self, h2, h3⟩
theorem in_order (l : List Event) : inOrder l = ordFrom 0 l := by
  unfold inOrder
  rw [Bool.eq_iff_iff, decide_eq_true_eq, ord_from]
  exact ⟨fun h => ⟨fun _ _ => Nat.zero_le _, h⟩, fun h => h.2⟩
theorem merged_nil (b : List Event) : merged [] b = b := by
  unfold merged
  rfl
theorem merged_end (a : List Event) : merged a [] = a := by
  cases a with
  | nil => exact merged_nil []
  | cons x r =>
    unfold merged
    rfl
theorem merged_fst {x y : Event} {a b : List Event} (h : x.tick ≤ y.tick) : merged (x :: a) (y :: b) = x :: merged a (y :: b) := by
  rw [merged.eq_def]
  exact if_pos h
theorem merged_snd {x y : Event} {a b : List Event} (h : ¬ x.tick ≤ y.tick) : merged (x :: a) (y :: b) = y :: merged (x :: a) b := by
  rw [merged.eq_def]
  exact if_neg h

/-! ### bytes one by one -/
def lineStep (size which : Nat) (s : Line) (x : UInt8) : List Got × Line := if which = 0 then plain size s x else numbered size s x
theorem receive_cons (size which : Nat) (s : Line) (x : UInt8) (r : Cd.Bytes) : receive size which s (x :: r) = ((lineStep size which s x).1 ++ (receive size which (lineStep size which s x).2 r).1, (receive size which (lineStep size which s x).2 r).2) := rfl
theorem receive_append (size which : Nat) : ∀ (a b : Cd.Bytes) (s : Line), receive size which s (a ++ b) = ((receive size which s a).1 ++ (receive size which (receive size which s a).2 b).1, (receive size which (receive size which s a).2 b).2)
  | [], b, s => rfl
  | x :: r, b, s => by
    rw [List.cons_append, receive_cons, receive_append size which r b, receive_cons, List.append_assoc]
theorem receive_snoc (size which : Nat) (a : Cd.Bytes) (x : UInt8) (s : Line) : receive size which s (a ++ [x]) = ((receive size which s a).1 ++ (lineStep size which (receive size which s a).2 x).1, (lineStep size which (receive size which s a).2 x).2) := by
  rw [receive_append, receive_cons]
  show ((receive size which s a).1 ++ ((lineStep size which (receive size which s a).2 x).1 ++ []), _) = _
  rw [List.append_nil]
  rfl
/-! ### ticks in sevens -/
theorem sevens_small {f n : Nat} (h : n < 128) : sevens (f + 1) n = [UInt8.ofNat n] := by
  unfold sevens
  exact if_pos h
theorem sevens_more {f n : Nat} (h : ¬ n < 128) : sevens (f + 1) n = UInt8.ofNat (128 + n % 128) :: sevens f (n / 128) := by
  rw [sevens.eq_def]
  exact if_neg h
end Kx

-- XLine2
/-! The two lines by natural numbers: packets, ticks, bodies judged. -/
namespace Kx
open CdKeys KeysCalls

def tN (b : Cd.Bytes) : List Nat := b.map UInt8.toNat
theorem tN_length (b : Cd.Bytes) : (tN b).length = b.length := List.length_map _
theorem tN_append (a b : Cd.Bytes) : tN (a ++ b) = tN a ++ tN b := List.map_append
theorem tN_inj {a b : Cd.Bytes} : tN a = tN b ↔ a = b := by
  constructor
  · intro h
    induction a generalizing b with
    | nil =>
      cases b with
      | nil => rfl
      | cons y t => cases h
    | cons x r ih =>
      cases b with
      | nil => cases h
      | cons y t =>
        have h' : x.toNat :: tN r = y.toNat :: tN t := h
        injection h' with h1 h2
        rw [UInt8.toNat_inj.mp h1, ih h2]
  · rintro rfl
    rfl
theorem tN_drop (b : Cd.Bytes) (i : Nat) : (tN b).drop i = tN (b.drop i) := List.map_drop.symm
theorem tN_take (b : Cd.Bytes) (i : Nat) : (tN b).take i = tN (b.take i) := List.map_take.symm
theorem tN_lt {b : Cd.Bytes} : ∀ n ∈ tN b, n < 256 := by
  intro n h
  obtain ⟨x, _, rfl⟩ := List.mem_map.mp h
  exact x.toNat_lt
theorem ofNat_toNat {n : Nat} (h : n < 256) : (UInt8.ofNat n).toNat = n := by
  rw [UInt8.toNat_ofNat']
  exact Nat.mod_eq_of_lt h

/-! ### the plain line -/
def fold7 (n : Nat) (l : List Nat) : Nat := l.foldl (fun n x => n * 128 + x) n
theorem fold7_lo : ∀ (l : List Nat) (n : Nat), (∀ x ∈ l, x < 128) → fold7 n l / 128 ^ l.length = n
  | [], n, _ => by
    show n / 1 = n
    exact Nat.div_one n
  | x :: r, n, h => by
    have ih := fold7_lo r (n * 128 + x) (fun y hy => h y (List.mem_cons_of_mem _ hy))
    have hx := h x List.mem_cons_self
    show fold7 (n * 128 + x) r / 128 ^ (r.length + 1) = n
    rw [Nat.pow_succ, ← Nat.div_div_eq_div_mul, ih]
    omega
theorem fold7_lt : ∀ (l : List Nat) (n m : Nat), (∀ x ∈ l, x < 128) → n < m → fold7 n l < m * 128 ^ l.length
  | [], n, m, _, h => by
    show n < m * 1
    omega
  | x :: r, n, m, h, hn => by
    have hx := h x List.mem_cons_self
    have ih := fold7_lt r (n * 128 + x) (m * 128) (fun y hy => h y (List.mem_cons_of_mem _ hy)) (by omega)
    show fold7 (n * 128 + x) r < m * 128 ^ (r.length + 1)
    rw [Nat.pow_succ, Nat.mul_comm (128 ^ r.length) 128, ← Nat.mul_assoc]
    exact ih
/-- the chord of a packet, by numbers -/
def pChord : List Nat → Nat
  | [] => 0
  | a :: r => fold7 (a % 64) r
theorem packet_chord : ∀ (b : Cd.Bytes), (∀ y ∈ b.tail, y.toNat < 128) → packetChord b = pChord (tN b)
  | [], _ => rfl
  | a :: r, h => by
    have go : ∀ (r : Cd.Bytes) (n : Nat), (∀ y ∈ r, y.toNat < 128) → r.foldl (fun (n : Nat) (x : UInt8) => 128 * n + x.toNat % 128) n = fold7 n (tN r) := by
      intro r
      induction r with
      | nil => exact fun n _ => rfl
      | cons x t ih =>
        intro n hh
        have hx := hh x List.mem_cons_self
        show t.foldl _ (128 * n + x.toNat % 128) = fold7 (n * 128 + x.toNat) (tN t)
        rw [ih _ (fun y hy => hh y (List.mem_cons_of_mem _ hy)), Nat.mod_eq_of_lt hx, Nat.mul_comm 128 n]
    exact go r _ h
/-- the first byte that a chord's packet has -/
def firstB (c : Nat) : Nat := 128 + 64 * odd c + c / 2 ^ 42
theorem odd_lt (c : Nat) : odd c < 2 := by
  unfold odd
  exact Nat.mod_lt _ (by decide)
theorem packet_right {a : UInt8} {r : Cd.Bytes} (ha : 128 ≤ a.toNat) (hr : ∀ y ∈ r, y.toNat < 128) (hl : r.length = 6) : packetRight (a :: r) = decide (a.toNat = firstB (pChord (tN (a :: r)))) := by
  unfold packetRight
  rw [packet_chord (a :: r) hr]
  show (a.toNat / 64 % 2 == odd (fold7 (a.toNat % 64) (tN r))) = decide (a.toNat = firstB (fold7 (a.toNat % 64) (tN r)))
  have q := fold7_lo (tN r) (a.toNat % 64) (fun x hx => by
    obtain ⟨y, hy, rfl⟩ := List.mem_map.mp hx
    exact hr y hy)
  rw [tN_length, hl] at q
  generalize fold7 (a.toNat % 64) (tN r) = c at q
  have q' : c / 2 ^ 42 = a.toNat % 64 := q
  unfold firstB
  rw [q']
  have o := odd_lt c
  have al := a.toNat_lt
  by_cases z : a.toNat / 64 % 2 = odd c
  · rw [decide_eq_true (by omega)]
    exact beq_iff_eq.mpr z
  · rw [decide_eq_false (by omega)]
    exact beq_eq_false_iff_ne.mpr z
theorem pChord_lt {a : UInt8} {r : Cd.Bytes} (hr : ∀ y ∈ r, y.toNat < 128) (hl : r.length = 6) : pChord (tN (a :: r)) < 2 ^ 48 := by
  have := fold7_lt (tN r) (a.toNat % 64) 64 (fun x hx => by
    obtain ⟨y, hy, rfl⟩ := List.mem_map.mp hx
    exact hr y hy) (Nat.mod_lt _ (by decide))
  rw [tN_length, hl] at this
  exact this
theorem packet_tN {c : Nat} (h : c < 2 ^ 48) : tN (packet c) = firstB c :: [35, 28, 21, 14, 7, 0].map fun s => c / 2 ^ s &&& 127 := by
  have o := odd_lt c
  have h42 : c / 2 ^ 42 < 64 := by
    rw [Nat.div_lt_iff_lt_mul (by decide)]
    exact h
  unfold packet tN
  rw [List.map_cons, List.map_map]
  congr 1
  · rw [ofNat_toNat (by omega)]
    unfold firstB
    rw [Nat.mod_eq_of_lt h42]
  · refine List.map_congr_left fun s _ => ?_
    show (UInt8.ofNat (c / 2 ^ s % 128)).toNat = c / 2 ^ s &&& 127
    have m : c / 2 ^ s % 128 < 128 := Nat.mod_lt _ (by decide)
    rw [ofNat_toNat (by omega)]
    exact (Nat.and_two_pow_sub_one_eq_mod (c / 2 ^ s) 7).symm

/-! ### ticks in sevens of bits -/
def tbN : Nat → Nat → List Nat
  | 0, _ => []
  | f + 1, n => if n < 128 then [n] else (128 + n % 128) :: tbN f (n / 128)
theorem tbN_sevens : ∀ (f n : Nat), tN (sevens f n) = tbN f n
  | 0, _ => rfl
  | f + 1, n => by
    by_cases h : n < 128
    · rw [sevens_small h]
      show [(UInt8.ofNat n).toNat] = if n < 128 then _ else _
      rw [if_pos h, ofNat_toNat (by omega)]
    · rw [sevens_more h]
      show (UInt8.ofNat (128 + n % 128)).toNat :: tN (sevens f (n / 128)) = if n < 128 then _ else _
      rw [if_neg h, tbN_sevens f, ofNat_toNat (by omega)]
def toN (l : List Nat) : Nat := l.foldr (fun x n => x % 128 + 128 * n) 0
theorem toN_lt : ∀ l : List Nat, toN l < 128 ^ l.length
  | [] => by decide
  | x :: r => by
    have ih := toN_lt r
    show x % 128 + 128 * toN r < 128 ^ (r.length + 1)
    rw [Nat.pow_succ]
    omega
/-- ticks written as they should be -/
def tok : List Nat → Bool
  | [] => false
  | [x] => decide (x < 128)
  | x :: y :: r => decide (128 ≤ x) && (tok (y :: r) && !decide (y :: r = [0]))
theorem tok_zero : ∀ {t : List Nat}, tok t = true → toN t = 0 → t = [0]
  | [], h, _ => by cases h
  | [x], h, z => by
    have h' : decide (x < 128) = true := h
    rw [decide_eq_true_eq] at h'
    have z' : x % 128 + 128 * 0 = 0 := z
    have : x = 0 := by omega
    rw [this]
  | x :: y :: r, h, z => by
    have h' : (decide (128 ≤ x) && (tok (y :: r) && !decide (y :: r = [0]))) = true := h
    rw [Bool.and_eq_true, Bool.and_eq_true] at h'
    have z' : x % 128 + 128 * toN (y :: r) = 0 := z
    have := tok_zero h'.2.1 (by omega)
    rw [decide_eq_true this] at h'
    exact absurd h'.2.2 (by decide)
theorem tok_is : ∀ (l : List Nat) (f : Nat), l ≠ [] → (∀ x ∈ l, x < 256) → l.length ≤ f → (tbN f (toN l) = l ↔ tok l = true)
  | [], _, h, _, _ => absurd rfl h
  | [x], f, _, hx, hf => by
    obtain ⟨g, rfl⟩ : ∃ g, f = g + 1 := ⟨f - 1, by simp at hf; omega⟩
    have e : toN [x] = x % 128 := by
      show x % 128 + 128 * 0 = _
      omega
    rw [e]
    show (if x % 128 < 128 then [x % 128] else _) = [x] ↔ decide (x < 128) = true
    rw [if_pos (Nat.mod_lt _ (by decide)), decide_eq_true_eq]
    constructor
    · intro h
      injection h with h
      omega
    · intro h
      rw [Nat.mod_eq_of_lt h]
  | x :: y :: r, f, _, hx, hf => by
    obtain ⟨g, rfl⟩ : ∃ g, f = g + 1 := ⟨f - 1, by simp at hf; omega⟩
    have ih := tok_is (y :: r) g (by simp) (fun z hz => hx z (List.mem_cons_of_mem _ hz)) (by simp at hf ⊢; omega)
    have x256 := hx x List.mem_cons_self
    have e : toN (x :: y :: r) = x % 128 + 128 * toN (y :: r) := rfl
    rw [e]
    show (if x % 128 + 128 * toN (y :: r) < 128 then _ else _) = _ ↔ (decide (128 ≤ x) && (tok (y :: r) && !decide (y :: r = [0]))) = true
    by_cases z : toN (y :: r) = 0
    · rw [if_pos (by omega)]
      constructor
      · intro h
        have := congrArg List.length h
        simp at this
      · intro h
        rw [Bool.and_eq_true, Bool.and_eq_true] at h
        have := tok_zero h.2.1 z
        rw [decide_eq_true this] at h
        exact absurd h.2.2 (by decide)
    · rw [if_neg (by omega), show (x % 128 + 128 * toN (y :: r)) % 128 = x % 128 by omega, show (x % 128 + 128 * toN (y :: r)) / 128 = toN (y :: r) by omega]
      have nz : ¬ (y :: r = [0]) := fun q => z (by rw [q]; rfl)
      rw [decide_eq_false nz, Bool.and_eq_true, Bool.and_eq_true, ← ih, decide_eq_true_eq]
      constructor
      · intro h
        injection h with h1 h2
        exact ⟨by omega, h2, rfl⟩
      · rintro ⟨h1, h2, _⟩
        rw [h2]
        congr 1
        omega
/-- the first byte without bit 7 -/
def fst7 (s : Cd.Bytes) : Option Nat := (List.range s.length).find? fun (i : Nat) => decide ((s.getD i 0).toNat < 128)
theorem fst7_cons (x : UInt8) (r : Cd.Bytes) : fst7 (x :: r) = if x.toNat < 128 then some 0 else (fst7 r).map Nat.succ := by
  unfold fst7
  rw [List.length_cons, List.range_succ_eq_map, List.find?_cons]
  show (match decide (x.toNat < 128) with
    | true => some 0
    | false => ((List.range r.length).map Nat.succ).find? _) = _
  by_cases h : x.toNat < 128
  · rw [decide_eq_true h, if_pos h]
  · rw [decide_eq_false h, if_neg h]
    show ((List.range r.length).map Nat.succ).find? _ = _
    rw [List.find?_map]
    rfl
def wrT (s : Cd.Bytes) : Bool := match fst7 s with
  | none => false
  | some i => decide (i + 1 = s.length ∧ ¬ (0 < i ∧ s.getD i 0 = 0))
theorem wrT_tok : ∀ s : Cd.Bytes, s ≠ [] → wrT s = tok (tN s)
  | [], h => absurd rfl h
  | [x], _ => by
    unfold wrT
    rw [fst7_cons]
    show _ = decide (x.toNat < 128)
    by_cases h : x.toNat < 128
    · rw [if_pos h, decide_eq_true h]
      rfl
    · rw [if_neg h, decide_eq_false h]
      rfl
  | x :: y :: r, _ => by
    have ih := wrT_tok (y :: r) (by simp)
    unfold wrT at ih ⊢
    rw [fst7_cons]
    show _ = (decide (128 ≤ x.toNat) && (tok (tN (y :: r)) && !decide (tN (y :: r) = [0])))
    rw [← ih]
    by_cases h : x.toNat < 128
    · rw [if_pos h, decide_eq_false (show ¬ 128 ≤ x.toNat by omega)]
      refine decide_eq_false ?_
      rintro ⟨h1, _⟩
      simp at h1
    · rw [if_neg h, decide_eq_true (show 128 ≤ x.toNat by omega), Bool.true_and]
      cases q : fst7 (y :: r) with
      | none => rfl
      | some i =>
        show decide (i + 1 + 1 = (x :: y :: r).length ∧ ¬ (0 < i + 1 ∧ (x :: y :: r).getD (i + 1) 0 = 0)) = (decide (i + 1 = (y :: r).length ∧ ¬ (0 < i ∧ (y :: r).getD i 0 = 0)) && !decide (tN (y :: r) = [0]))
        have g : (x :: y :: r).getD (i + 1) 0 = (y :: r).getD i 0 := rfl
        rw [g]
        have e0 : tN (y :: r) = [0] ↔ y :: r = [0] := by
          have : ([0] : List Nat) = tN [0] := rfl
          rw [this, tN_inj]
        rw [decide_eq_decide.mpr e0]
        have l1 : (x :: y :: r).length = (y :: r).length + 1 := rfl
        rw [l1]
        by_cases c : y :: r = [0]
        · rw [decide_eq_true c, Bool.not_true, Bool.and_false]
          refine decide_eq_false ?_
          rintro ⟨h1, h2⟩
          rw [c] at h1 h2
          have : i = 0 := by simp at h1; omega
          subst this
          exact h2 ⟨by decide, rfl⟩
        · rw [decide_eq_false c, Bool.not_false, Bool.and_true]
          refine decide_eq_decide.mpr ?_
          constructor
          · rintro ⟨h1, h2⟩
            exact ⟨by omega, fun ⟨_, z⟩ => h2 ⟨by omega, z⟩⟩
          · rintro ⟨h1, h2⟩
            refine ⟨by omega, fun ⟨_, z⟩ => ?_⟩
            by_cases i0 : 0 < i
            · exact h2 ⟨i0, z⟩
            · have i00 : i = 0 := by omega
              subst i00
              have sl : (y :: r).length = 1 := by omega
              obtain ⟨w, hw⟩ := List.length_eq_one_iff.mp sl
              rw [hw] at z c
              have : w = 0 := z
              rw [this] at c
              exact c rfl

/-! ### a body judged -/
def checkN (b : Cd.Bytes) : List Nat := [crc16 b / 256, crc16 b % 256]
def ticksIn (l : List Nat) : List Nat := (l.drop 1).take (l.length - 8 - 1)
def co8 (l : List Nat) : Nat := l.foldr (fun x n => x + 256 * n) 0
def chordIn (l : List Nat) : Nat := co8 ((l.drop (l.length - 8)).take (l.length - 2 - (l.length - 8)))
def faultIn (size : Nat) (b : Cd.Bytes) : Nat :=
  if b.length < 10 then 5
  else if !decide ((tN b).drop (b.length - 2) = checkN (b.take (b.length - 2))) then 6
  else if !decide (ticksIn (tN b) = tbN 4 (toN (ticksIn (tN b)))) then 7
  else if !(decide (1 ≤ chordIn (tN b)) && decide (chordIn (tN b) < 2 ^ size)) then 8
  else 0
theorem co8_lt : ∀ l : List Nat, (∀ x ∈ l, x < 256) → co8 l < 256 ^ l.length
  | [], _ => by decide
  | x :: r, h => by
    have ih := co8_lt r (fun y hy => h y (List.mem_cons_of_mem _ hy))
    have hx := h x List.mem_cons_self
    show x + 256 * co8 r < 256 ^ (r.length + 1)
    rw [Nat.pow_succ]
    omega
theorem toN_fold (s : Cd.Bytes) : s.foldr (fun (x : UInt8) (n : Nat) => x.toNat % 128 + 128 * n) 0 = toN (tN s) := by
  induction s with
  | nil => rfl
  | cons x r ih =>
    show x.toNat % 128 + 128 * _ = x.toNat % 128 + 128 * toN (tN r)
    rw [ih]
theorem co8_fold (s : Cd.Bytes) : s.foldr (fun (x : UInt8) (n : Nat) => x.toNat + 256 * n) 0 = co8 (tN s) := by
  induction s with
  | nil => rfl
  | cons x r ih =>
    show x.toNat + 256 * _ = x.toNat + 256 * co8 (tN r)
    rw [ih]
theorem judge_is (size : Nat) (b : Cd.Bytes) (h13 : b.length ≤ 13) : judge size b = if faultIn size b = 0 then .inr ((b.headD 0).toNat, toN (ticksIn (tN b)), chordIn (tN b)) else .inl (faultIn size b) := by
  unfold judge faultIn
  by_cases h10 : b.length < 10
  · rw [if_pos h10, if_pos h10]
    rfl
  rw [if_neg h10, if_neg h10]
  dsimp only
  have hc : b.drop (b.length - 2) = [UInt8.ofNat (crc16 (b.take (b.length - 2)) / 256), UInt8.ofNat (crc16 (b.take (b.length - 2)) % 256)] ↔ (tN b).drop (b.length - 2) = checkN (b.take (b.length - 2)) := by
    rw [tN_drop, ← tN_inj]
    have l := crc16_lt (b.take (b.length - 2))
    have e : tN [UInt8.ofNat (crc16 (b.take (b.length - 2)) / 256), UInt8.ofNat (crc16 (b.take (b.length - 2)) % 256)] = checkN (b.take (b.length - 2)) := by
      show [(UInt8.ofNat _).toNat, (UInt8.ofNat _).toNat] = _
      rw [ofNat_toNat (by omega), ofNat_toNat (by omega)]
      rfl
    rw [e]
  by_cases c6 : (tN b).drop (b.length - 2) = checkN (b.take (b.length - 2))
  · rw [if_neg (fun z => z (hc.mpr c6)), decide_eq_true c6]
    simp only [Bool.not_true, Bool.false_eq_true, ↓reduceIte]
    have sl : ((b.take (b.length - 2)).drop 1).take ((b.take (b.length - 2)).length - 7) = (b.drop 1).take (b.length - 8 - 1) := by
      rw [List.length_take, List.drop_take, List.take_take]
      congr 1
      omega
    rw [sl]
    have tkN : tN ((b.drop 1).take (b.length - 8 - 1)) = ticksIn (tN b) := by
      unfold ticksIn
      rw [tN_length, tN_drop, tN_take]
    have chN : tN ((b.take (b.length - 2)).drop ((b.take (b.length - 2)).length - 6)) = ((tN b).drop ((tN b).length - 8)).take ((tN b).length - 2 - ((tN b).length - 8)) := by
      rw [List.length_take, List.drop_take, tN_length, tN_drop, tN_take]
      congr 1
      rw [show min (b.length - 2) b.length - 6 = b.length - 8 by omega]
    have sn : (b.drop 1).take (b.length - 8 - 1) ≠ [] := by
      intro z
      have := congrArg List.length z
      rw [List.length_take, List.length_drop] at this
      simp at this
      omega
    have s4 : ((b.drop 1).take (b.length - 8 - 1)).length ≤ 4 := by
      rw [List.length_take, List.length_drop]
      omega
    have w := wrT_tok _ sn
    have tk := tok_is (ticksIn (tN b)) 4 (by
      rw [← tkN]
      intro z
      have := congrArg List.length z
      rw [tN_length] at this
      exact sn (List.length_eq_zero_iff.mp this)) (by
      rw [← tkN]
      exact tN_lt) (by rw [← tkN, tN_length]; exact s4)
    rw [tkN] at w
    have ch : ((b.take (b.length - 2)).drop ((b.take (b.length - 2)).length - 6)).foldr (fun (x : UInt8) (n : Nat) => x.toNat + 256 * n) 0 = chordIn (tN b) := by
      rw [co8_fold, chN]
      rfl
    have tv : ((b.drop 1).take (b.length - 8 - 1)).foldr (fun (x : UInt8) (n : Nat) => x.toNat % 128 + 128 * n) 0 = toN (ticksIn (tN b)) := by
      rw [toN_fold, tkN]
    rw [ch, tv]
    clear ch tv chN hc sl
    generalize hs : (b.drop 1).take (b.length - 8 - 1) = s at w s4 sn tkN
    show (match fst7 s with
      | none => _
      | some i => _) = _
    unfold wrT at w
    by_cases c7 : ticksIn (tN b) = tbN 4 (toN (ticksIn (tN b)))
    · have t1 := tk.mp c7.symm
      rw [t1] at w
      rw [decide_eq_true c7]
      simp only [Bool.not_true, Bool.false_eq_true, ↓reduceIte]
      cases q : fst7 s with
      | none =>
        rw [q] at w
        cases w
      | some i =>
        rw [q] at w
        have w' := of_decide_eq_true w
        dsimp only
        rw [if_neg (by
          rintro (z | z | z)
          · exact z w'.1
          · omega
          · exact w'.2 z)]
        by_cases c8 : 1 ≤ chordIn (tN b) ∧ chordIn (tN b) < 2 ^ size
        · rw [if_pos c8, decide_eq_true c8.1, decide_eq_true c8.2]
          rfl
        · rw [if_neg c8]
          have : (decide (1 ≤ chordIn (tN b)) && decide (chordIn (tN b) < 2 ^ size)) = false := by
            rw [← Bool.not_eq_true, Bool.and_eq_true, decide_eq_true_eq, decide_eq_true_eq]
            exact c8
          rw [this]
          rfl
    · have t1 : tok (ticksIn (tN b)) = false := by
        cases z : tok (ticksIn (tN b)) with
        | false => rfl
        | true => exact absurd (tk.mpr z).symm c7
      rw [t1] at w
      rw [decide_eq_false c7]
      simp only [Bool.not_false, ↓reduceIte]
      cases q : fst7 s with
      | none => rfl
      | some i =>
        rw [q] at w
        have w' := of_decide_eq_false w
        dsimp only
        rw [if_pos]
        · rfl
        · by_cases c : i + 1 = s.length
          · refine Or.inr (Or.inr ?_)
            by_cases d : 0 < i ∧ s.getD i 0 = 0
            · exact d
            · exact absurd ⟨c, d⟩ w'
          · exact Or.inl c
  · rw [if_pos (fun z => c6 (hc.mp z)), decide_eq_false c6]
    rfl
theorem faultIn_cases (size : Nat) (b : Cd.Bytes) : faultIn size b = 0 → 10 ≤ b.length := by
  intro h
  unfold faultIn at h
  split at h
  · cases h
  · omega
end Kx

-- XEvents
/-! Rows of events by numbers: their order, two rows made one. -/
namespace Kx
open CdKeys KeysCalls

def ordN : Nat → List Nat → Bool
  | last, t :: _ :: r => if t < last then false else ordN t r
  | _, _ => true
def inOrd (ns : List Nat) (last : Nat) : Bool := if ns.length % 2 = 1 then false else ordN last ns
theorem ordN_is : ∀ (ns : List Nat) (last : Nat) (l : List Event), eventsIn ns = some l → ordN last ns = ordFrom last l
  | [], last, l, h => by
    cases h
    rfl
  | [_], _, _, h => by cases h
  | t :: k :: r, last, l, h => by
    have h' : (eventsIn r).map (fun l : List Event => (⟨t, k / 2, k % 2 == 1⟩ : Event) :: l) = some l := h
    rw [Option.map_eq_some_iff] at h'
    obtain ⟨m, hm, rfl⟩ := h'
    show (if t < last then false else ordN t r) = (decide (last ≤ t) && ordFrom t m)
    by_cases c : t < last
    · rw [if_pos c, decide_eq_false (by omega)]
      rfl
    · rw [if_neg c, decide_eq_true (by omega), ordN_is r t m hm]
      rfl
theorem events_parity : ∀ ns : List Nat, eventsIn ns = none ↔ ns.length % 2 = 1
  | [] => by
    show (some [] = none) ↔ _
    simp
  | [_] => by
    show (none = none) ↔ _
    simp
  | t :: k :: r => by
    have ih := events_parity r
    show ((eventsIn r).map _ = none) ↔ _
    rw [Option.map_eq_none_iff, ih, List.length_cons, List.length_cons]
    omega
def evNs (l : List Event) : List Nat := l.flatMap eventNums
theorem evNs_cons (e : Event) (r : List Event) : evNs (e :: r) = e.tick :: (2 * e.key + (if e.down = true then 1 else 0)) :: evNs r := rfl
theorem evNs_append (a b : List Event) : evNs (a ++ b) = evNs a ++ evNs b := List.flatMap_append
theorem evNs_length : ∀ l : List Event, (evNs l).length = 2 * l.length
  | [] => rfl
  | e :: r => by
    rw [evNs_cons, List.length_cons, List.length_cons, evNs_length r, List.length_cons]
    omega
theorem evNs_drop : ∀ (l : List Event) (i : Nat), (evNs l).drop (2 * i) = evNs (l.drop i)
  | l, 0 => rfl
  | [], i + 1 => by
    show ([] : List Nat).drop _ = []
    exact List.drop_nil
  | e :: r, i + 1 => by
    rw [evNs_cons, show 2 * (i + 1) = 2 * i + 1 + 1 by omega, List.drop_succ_cons, List.drop_succ_cons, evNs_drop r i, List.drop_succ_cons]
theorem evNs_at {l : List Event} {i : Nat} {e : Event} (h : l[i]? = some e) : (evNs l)[2 * i]? = some e.tick := by
  have d := evNs_drop l i
  have lt := (List.getElem?_eq_some_iff.mp h).1
  rw [List.drop_eq_getElem_cons lt, evNs_cons] at d
  have e' : l[i] = e := (List.getElem?_eq_some_iff.mp h).2
  rw [e'] at d
  have := congrArg (fun x => x[0]?) d
  rw [List.getElem?_drop] at this
  exact this
theorem evNs_pair {l : List Event} {i : Nat} {e : Event} (h : l[i]? = some e) : ((evNs l).drop (2 * i)).take 2 = eventNums e := by
  have lt := (List.getElem?_eq_some_iff.mp h).1
  have e' : l[i] = e := (List.getElem?_eq_some_iff.mp h).2
  rw [evNs_drop, List.drop_eq_getElem_cons lt, e', evNs_cons]
  rfl
/-- the second row's event comes next -/
theorem merged_snd' {x y : List Event} {i : Nat} {g : Event} (h : y[i]? = some g) (n : ∀ e, x.head? = some e → ¬ e.tick ≤ g.tick) : merged x (y.drop i) = g :: merged x (y.drop (i + 1)) := by
  have lt := (List.getElem?_eq_some_iff.mp h).1
  have e' : y[i] = g := (List.getElem?_eq_some_iff.mp h).2
  rw [List.drop_eq_getElem_cons lt, e']
  cases x with
  | nil => rw [merged_nil, merged_nil]
  | cons e r => exact merged_snd (n e rfl)
theorem merged_fst' {x y : List Event} {p i : Nat} {e g : Event} (hx : x[p]? = some e) (h : y[i]? = some g) (n : e.tick ≤ g.tick) : merged (x.drop p) (y.drop i) = e :: merged (x.drop (p + 1)) (y.drop i) := by
  have lt := (List.getElem?_eq_some_iff.mp h).1
  have e' : y[i] = g := (List.getElem?_eq_some_iff.mp h).2
  have lx := (List.getElem?_eq_some_iff.mp hx).1
  have ex : x[p] = e := (List.getElem?_eq_some_iff.mp hx).2
  rw [List.drop_eq_getElem_cons lt, e', List.drop_eq_getElem_cons lx, ex]
  exact merged_fst n
theorem merged_lenE : ∀ (n : Nat) (x y : List Event), x.length + y.length ≤ n → (merged x y).length = x.length + y.length
  | _, [], y, _ => by
    rw [merged_nil]
    simp
  | _, x :: a, [], _ => by
    rw [merged_end]
    simp
  | 0, x :: a, y :: b, h => by
    simp at h
  | n + 1, x :: a, y :: b, h => by
    by_cases c : x.tick ≤ y.tick
    · rw [merged_fst c, List.length_cons, merged_lenE n a (y :: b) (by simp at h ⊢; omega)]
      simp
      omega
    · rw [merged_snd c, List.length_cons, merged_lenE n (x :: a) b (by simp at h ⊢; omega)]
      simp
      omega
/-- what merge is answered -/
theorem merge_bad1 {a b : List Nat} (h : inOrd a 0 = false ∨ inOrd b 0 = false) (s : State) : KeysCalls.step s (.merge a b) = (s, BAD) := by
  have e : alone (.merge a b) = some BAD := by
    show some (match eventsIn a, eventsIn b with
      | some x, some y => if ROWS < x.length ∨ ROWS < y.length ∨ inOrder x = false ∨ inOrder y = false then BAD else tells [.l ((merged x y).flatMap eventNums)]
      | _, _ => BAD) = some BAD
    cases qa : eventsIn a with
    | none => rfl
    | some x =>
      cases qb : eventsIn b with
      | none => rfl
      | some y =>
        dsimp only
        rw [if_pos]
        have pa : ¬ a.length % 2 = 1 := fun z => by
          rw [(events_parity a).mpr z] at qa
          cases qa
        have pb : ¬ b.length % 2 = 1 := fun z => by
          rw [(events_parity b).mpr z] at qb
          cases qb
        unfold inOrd at h
        rw [if_neg pa, if_neg pb, ordN_is a 0 x qa, ordN_is b 0 y qb, ← in_order, ← in_order] at h
        exact Or.inr (Or.inr h)
  unfold KeysCalls.step
  rw [e]
theorem merge_ok {a b : List Nat} (ha : inOrd a 0 = true) (hb : inOrd b 0 = true) (la : a.length ≤ 19000) (lb : b.length ≤ 19000) (s : State) : ∃ x y, eventsIn a = some x ∧ eventsIn b = some y ∧ KeysCalls.step s (.merge a b) = (s, tells [.l (evNs (merged x y))]) := by
  unfold inOrd at ha hb
  split at ha
  · cases ha
  rename_i pa
  split at hb
  · cases hb
  rename_i pb
  cases qa : eventsIn a with
  | none => exact absurd ((events_parity a).mp qa) pa
  | some x =>
    cases qb : eventsIn b with
    | none => exact absurd ((events_parity b).mp qb) pb
    | some y =>
      refine ⟨x, y, rfl, rfl, ?_⟩
      have e : alone (.merge a b) = some (tells [.l (evNs (merged x y))]) := by
        show some (match eventsIn a, eventsIn b with
          | some x, some y => if ROWS < x.length ∨ ROWS < y.length ∨ inOrder x = false ∨ inOrder y = false then BAD else tells [.l ((merged x y).flatMap eventNums)]
          | _, _ => BAD) = _
        rw [qa, qb]
        dsimp only
        rw [if_neg]
        · rfl
        · have l1 := evNs_length x
          have l2 := evNs_length y
          rw [show evNs x = a from event_nums qa] at l1
          rw [show evNs y = b from event_nums qb] at l2
          rw [ordN_is a 0 x qa, ← in_order] at ha
          rw [ordN_is b 0 y qb, ← in_order] at hb
          have R : ROWS = 16384 := rfl
          rintro (z | z | z | z)
          · omega
          · omega
          · rw [ha] at z
            cases z
          · rw [hb] at z
            cases z
      unfold KeysCalls.step
      rw [e]
end Kx

-- KBase
/-! What every def's proof leans on: the program's places, natural numbers as values, defs and methods in one word each. -/
namespace Kx
open PySem PySem.Spec PyProof.Rows L2 Evl

/-! ### places -/
def top (i : Nat) : Stmt := PySem.Challenge.pw_strokehall_s01_answers.main.body.getD i (.Pass ⟨0, 0, 0, 0⟩)

/-! ### a natural number as a value -/
abbrev vn (n : Nat) : V := .int (n : Int)
def vns (l : List Nat) : List V := l.map vn
theorem vns_length (l : List Nat) : (vns l).length = l.length := List.length_map _
theorem vns_append (a b : List Nat) : vns (a ++ b) = vns a ++ vns b := List.map_append
theorem vns_get {l : List Nat} {i : Nat} {x : V} (h : (vns l)[i]? = some x) : ∃ n, l[i]? = some n ∧ x = vn n := by
  unfold vns at h
  rw [List.getElem?_map] at h
  cases e : l[i]? with
  | none =>
    rw [e] at h
    cases h
  | some n =>
    rw [e] at h
    exact ⟨n, rfl, (Option.some.inj h).symm⟩
theorem vns_at {l : List Nat} {i n : Nat} (h : l[i]? = some n) : (vns l)[i]? = some (vn n) := by
  unfold vns
  rw [List.getElem?_map, h]
  rfl
theorem atI_vns {l : List Nat} {i n : Nat} (h : l[i]? = some n) : atI (vns l) (i : Int) = some (vn n) := by
  have lt := (List.getElem?_eq_some_iff.mp h).1
  unfold atI
  rw [ixN_nat (by rw [vns_length]; exact lt)]
  exact vns_at h
theorem atI_at {l : List V} {i : Nat} {v : V} (h : l[i]? = some v) : atI l (i : Int) = some v := by
  have lt := (List.getElem?_eq_some_iff.mp h).1
  unfold atI
  rw [ixN_nat lt]
  exact h

theorem few {n : Nat} (h : Nat.ble n 100000 = true := by rfl) : n ≤ 100000 := Nat.le_of_ble_eq_true h

theorem bit_test (c i : Nat) : (c / 2 ^ i &&& 1 != 0) = c.testBit i := by
  unfold Nat.testBit
  rw [Nat.shiftRight_eq_div_pow, Nat.and_comm]

/-! ### operators on natural numbers -/
def rN (C : Nat → Nat → Prop) (g : Nat → Nat → V) : R2 := fun x y H Q => ∃ n m : Nat, x = vn n ∧ y = vn m ∧ C n m ∧ Q (g n m) H
section
variable {X : Cx}
theorem opN_of {f : Value → Value → Sem Value} {r : R2} {C : Nat → Nat → Prop} {g : Nat → Nat → V} (h : OpR X f r) (k : ∀ n m H Q, C n m → Q (g n m) H → r (vn n) (vn m) H Q) : OpR X f (rN C g) := by
  intro pins s σ H x y v u Q I rx ry q
  obtain ⟨n, m, rfl, rfl, c, q⟩ := q
  exact h pins s σ H _ _ v u Q I rx ry (k n m H Q c q)
abbrev cT : Nat → Nat → Prop := fun _ _ => True
abbrev rAddN : R2 := rN cT fun n m => vn (n + m)
abbrev rSubN : R2 := rN (fun n m => m ≤ n) fun n m => vn (n - m)
abbrev rMulN : R2 := rN (fun n m => n ≤ 4294967296) fun n m => vn (n * m)
abbrev rDivN : R2 := rN (fun _ m => 1 ≤ m ∧ m < 1073741824) fun n m => vn (n / m)
abbrev rModN : R2 := rN (fun _ m => 1 ≤ m) fun n m => vn (n % m)
abbrev rAndN : R2 := rN cT fun n m => vn (n &&& m)
abbrev rOrN : R2 := rN cT fun n m => vn (n ||| m)
abbrev rXorN : R2 := rN cT fun n m => vn (n ^^^ m)
abbrev rShrN : R2 := rN cT fun n m => vn (n / 2 ^ m)
abbrev rShlN : R2 := rN (fun n m => n < 2 ^ 60 ∧ m ≤ 1000) fun n m => vn (n * 2 ^ m)
abbrev rLtN : R2 := rN cT fun n m => .bl (decide (n < m))
abbrev rLeN : R2 := rN cT fun n m => .bl (decide (n ≤ m))
abbrev rGtN : R2 := rN cT fun n m => .bl (decide (m < n))
abbrev rGeN : R2 := rN cT fun n m => .bl (decide (m ≤ n))
abbrev rEqN : R2 := rN cT fun n m => .bl (decide (n = m))
abbrev rNeN : R2 := rN cT fun n m => .bl (!decide (n = m))
theorem vn_eq {i : Int} {n : Nat} (h : i = (n : Int)) : V.int i = vn n := by rw [h]
theorem on_add : OpR X (binaryOp .Add) rAddN := opN_of op_add fun n m H Q _ q => ⟨n, m, rfl, rfl, q⟩
theorem on_sub : OpR X (binaryOp .Sub) rSubN := opN_of op_sub fun n m H Q c q => ⟨n, m, rfl, rfl, by
  show Q (.int ((n : Int) - (m : Int))) H
  rw [vn_eq (n := n - m) (by omega)]
  exact q⟩
theorem on_mul : OpR X (binaryOp .Mult) rMulN := opN_of op_mulN fun n m H Q c q => ⟨n, m, rfl, rfl, c, q⟩
theorem on_div : OpR X (binaryOp .FloorDiv) rDivN := opN_of op_fdivNN fun n m H Q c q => ⟨n, m, rfl, rfl, c, q⟩
theorem on_mod : OpR X (binaryOp .Mod) rModN := opN_of op_mod fun n m H Q c q => ⟨n, m, rfl, rfl, by
  show 0 < (m : Int)
  omega, q⟩
theorem on_and : OpR X (binaryOp .BitAnd) rAndN := opN_of op_and fun n m H Q c q => ⟨n, m, rfl, rfl, q⟩
theorem on_or : OpR X (binaryOp .BitOr) rOrN := opN_of op_or fun n m H Q c q => ⟨n, m, rfl, rfl, by
  show Q (.int (Builtin.bitOr (n : Int) (m : Int))) H
  rw [Bits.bitOr_pp (by omega) (by omega)]
  exact q⟩
theorem on_xor : OpR X (binaryOp .BitXor) rXorN := opN_of op_xor fun n m H Q c q => ⟨n, m, rfl, rfl, by
  show Q (.int (Builtin.bitXor (n : Int) (m : Int))) H
  rw [Bits.bitXor_pp (by omega) (by omega)]
  exact q⟩
theorem on_shr : OpR X (binaryOp .RShift) rShrN := opN_of op_shrN fun n m H Q c q => ⟨n, m, rfl, rfl, by
  rw [vn_eq (n := n / 2 ^ m) (by rw [Int.natCast_ediv, Int.natCast_pow]; rfl)]
  exact q⟩
theorem on_shl : OpR X (binaryOp .LShift) rShlN := opN_of op_shl fun n m H Q c q => ⟨n, m, rfl, rfl, ⟨by omega, by have := c.2; omega, by
  have := c.1
  show (n : Int).natAbs < 2 ^ 64
  rw [Int.natAbs_natCast]
  omega⟩, by
  show Q (.int ((n : Int) * 2 ^ (m : Int).toNat)) H
  rw [Int.toNat_natCast, vn_eq (n := n * 2 ^ m) (by rw [Int.natCast_mul, Int.natCast_pow]; rfl)]
  exact q⟩
theorem dec_eq {p q : Prop} [Decidable p] [Decidable q] (h : p ↔ q) : decide p = decide q := decide_eq_decide.mpr h
theorem on_lt : OpR X (compareOp .Lt) rLtN := opN_of op_lt fun n m H Q _ q => ⟨n, m, rfl, rfl, by
  show Q (.bl (decide ((n : Int) < (m : Int)))) H
  rw [dec_eq (q := n < m) (by omega)]
  exact q⟩
theorem on_le : OpR X (compareOp .LtE) rLeN := opN_of op_le fun n m H Q _ q => ⟨n, m, rfl, rfl, by
  show Q (.bl (decide ((n : Int) ≤ (m : Int)))) H
  rw [dec_eq (q := n ≤ m) (by omega)]
  exact q⟩
theorem on_gt : OpR X (compareOp .Gt) rGtN := opN_of op_gt fun n m H Q _ q => ⟨n, m, rfl, rfl, by
  show Q (.bl (decide ((m : Int) < (n : Int)))) H
  rw [dec_eq (q := m < n) (by omega)]
  exact q⟩
theorem on_ge : OpR X (compareOp .GtE) rGeN := opN_of op_ge fun n m H Q _ q => ⟨n, m, rfl, rfl, by
  show Q (.bl (decide ((m : Int) ≤ (n : Int)))) H
  rw [dec_eq (q := m ≤ n) (by omega)]
  exact q⟩
theorem vn_inj {n m : Nat} : (vn n = vn m) ↔ n = m := ⟨fun h => by
  injection h with h
  omega, fun h => by rw [h]⟩
theorem on_eq : OpR X (compareOp .Eq) rEqN := opN_of op_eq fun n m H Q _ q => ⟨rfl, by
  show Q (.bl (decide (vn n = vn m))) H
  rw [dec_eq (q := n = m) vn_inj]
  exact q⟩
theorem on_ne : OpR X (compareOp .NotEq) rNeN := opN_of op_ne fun n m H Q _ q => ⟨rfl, by
  show Q (.bl (!decide (vn n = vn m))) H
  rw [dec_eq (q := n = m) vn_inj]
  exact q⟩
end
theorem rvN {C : Nat → Nat → Prop} {g : Nat → Nat → V} {n m : Nat} {H : Hp} (c : C n m) : RV (rN C g) (vn n) (vn m) H (g n m) := fun H1 _ _ q => ⟨n, m, rfl, rfl, c, q H1 (Evl.Ex.refl H1)⟩
section
variable {K : PySem.W.Frag} {σ : L2.St} {H H' : Hp} {ta tb te : TE}
theorem evN {C : Nat → Nat → Prop} {g : Nat → Nat → V} {n m : Nat} (ha : Ev ta σ H (vn n)) (hb : Ev tb σ H (vn m)) (c : C n m) : Ev (tOp (rN C g) ta tb) σ H (g n m) := ev_op ha hb (rvN c)
/-- a test of two numbers -/
theorem etN {C : Nat → Nat → Prop} {g : Nat → Nat → Bool} {n m : Nat} (ha : Ev ta σ H (vn n)) (hb : Ev tb σ H (vn m)) (c : C n m) : EvT (tTest (tOp (rN C fun n m => .bl (g n m)) ta tb)) σ H (g n m) := et_test (evN ha hb c)
end

theorem eqV_vn (a b : Nat) : eqV (vn a) (vn b) = decide (a = b) := by
  show ((a : Int) == (b : Int)) = decide (a = b)
  by_cases h : a = b
  · subst h
    simp
  · have : ¬ (a : Int) = (b : Int) := by omega
    rw [decide_eq_false h]
    exact beq_eq_false_iff_ne.mpr this
theorem inV_vns (n : Nat) : ∀ l : List Nat, inV (vn n) (vns l) = decide (n ∈ l)
  | [] => rfl
  | a :: r => by
    have ih := inV_vns n r
    show (eqV (vn a) (vn n) || inV (vn n) (vns r)) = _
    rw [ih, eqV_vn]
    by_cases h : a = n
    · subst h
      simp
    · have h' : ¬ n = a := fun z => h z.symm
      simp [h, h']
theorem flat_vns : ∀ l : List Nat, (vns l).all flatV = true
  | [] => rfl
  | _ :: r => flat_vns r

/-! ### a def, a method, a class of the text, each in one word -/
structure Raw (K : PySem.W.Frag) (mg : Str → Option Value) (x : Str) (st : Stmt) (f : Addr) (fd : FuncData) : Prop where
  fn : Fun K x x st f fd
  at_ : mg x = some (.ref f)
structure RawM (K : PySem.W.Frag) (C : Addr) (x qual : Str) (st : Stmt) (f : Addr) (fd : FuncData) : Prop where
  fn : Fun K x qual st f fd
  at_ : Meth K C x f
/-- a def called x that keeps sp -/
structure Ok (P : Program) (w : World) (K : PySem.W.Frag) (mg : Str → Option Value) (base : Heap) (k : Nat) (x : Str) (ps : List Str) (sp : Sp) (f : Addr) (fd : FuncData) : Prop where
  ok : FnOk P w K mg base CX0 k f fd ps sp
  at_ : mg x = some (.ref f)
  kp : PySem.W.keepIn K (.ref f) = true
  bi : Binds K fd ps []
structure OkM (P : Program) (w : World) (K : PySem.W.Frag) (mg : Str → Option Value) (base : Heap) (k : Nat) (C : Addr) (x : Str) (ps : List Str) (sp : Sp) (f : Addr) (fd : FuncData) : Prop where
  ok : FnOk P w K mg base CX0 k f fd ps sp
  at_ : Meth K C x f
  bi : Binds K fd ps []
section
variable {X : Cx} {P : Program} {w : World} {K : PySem.W.Frag} {mg : Str → Option Value} {base : Heap} {k j : Nat} {f C : Addr} {fd : FuncData} {ps : List Str} {sp : Sp} {x m : Str} {st : Stmt}
theorem pe_own {e : Expr} {es : List Expr} {t : TA} {p pos : Pos} (G : Ok X.prog X.w X.K X.mg X.base k x ps sp f fd) (hr : Room j X.A) (ha : PA X (e :: es) t) (hj : k ≤ j := by decide) (hg : Gl X x := by rfl) (hdb : (x == ("__debug__" : Str)) = false := by decide)
    (he : starEach (e :: es) X.env = (false, eval e X.env) :: starEach es X.env := by rfl) (hpl : (backTo pos (starEach es X.env)).any (·.1) = false := by rfl) :
    PE X (.Call (.Name x p) (e :: es) [] pos) (tCall sp [] E0 t) := pe_call G.ok (hr.mono hj) hg G.at_ G.kp G.bi .nil pass0 ha hdb he hpl
theorem pe_own0 {p pos : Pos} (G : Ok X.prog X.w X.K X.mg X.base k x ps sp f fd) (hr : Room j X.A) (hj : k ≤ j := by decide) (hg : Gl X x := by rfl) (hdb : (x == ("__debug__" : Str)) = false := by decide) :
    PE X (.Call (.Name x p) [] [] pos) (tCall sp [] E0 tNil) := pe_call0 G.ok (hr.mono hj) hg G.at_ G.kp G.bi .nil pass0 hdb
theorem pe_ownM {pl : Sem Bool} {o e : Expr} {es : List Expr} {ta : TE} {t : TA} {pos apos : Pos} (G : OkM X.prog X.w X.K X.mg X.base k C m ps sp f fd) (c : Cls X.K C) (hr : Room j X.A) (he : PE X o ta) (ha : PA X (e :: es) t) (hj : k ≤ j := by decide)
    (hst : starEach (e :: es) X.env = (false, eval e X.env) :: starEach es X.env := by rfl) (hpl : (backTo pos (starEach es X.env)).any (·.1) = false := by rfl)
    (ht : eval (.Call (.Attribute o m apos) (e :: es) [] pos) X.env = (do
      let ov ← eval o X.env
      standAt apos.atName
      let (f, first) ← holding [ov] (getMethod ov m pl)
      callWith pos f first (backTo pos (starEach (e :: es) X.env)) (backToKw pos (keywordEach [] X.env))) := by rfl) :
    PE X (.Call (.Attribute o m apos) (e :: es) [] pos) (tMeth C m sp [] E0 ta t) := pe_meth he c G.at_ G.ok (hr.mono hj) G.bi .nil pass0 ha hst hpl ht
theorem pe_ownM0 {pl : Sem Bool} {o : Expr} {ta : TE} {pos apos : Pos} (G : OkM X.prog X.w X.K X.mg X.base k C m ps sp f fd) (c : Cls X.K C) (hr : Room j X.A) (he : PE X o ta) (hj : k ≤ j := by decide)
    (ht : eval (.Call (.Attribute o m apos) [] [] pos) X.env = (do
      let ov ← eval o X.env
      standAt apos.atName
      let (f, first) ← holding [ov] (getMethod ov m pl)
      callWith pos f first (backTo pos (starEach [] X.env)) (backToKw pos (keywordEach [] X.env))) := by rfl) :
    PE X (.Call (.Attribute o m apos) [] [] pos) (tMeth C m sp [] E0 ta tNil) := pe_meth0 he c G.at_ G.ok (hr.mono hj) G.bi .nil pass0 ht
/-- a whole number of the program's top -/
def GInt (mg : Str → Option Value) (x : Str) (n : Nat) : Prop := ∃ t, mg x = some (.int (n : Int) t)
theorem pe_gi {x : Str} {n : Nat} {pos : Pos} (h : GInt X.mg x n) (hg : Gl X x := by rfl) (hd : (x == ("__debug__" : Str)) = false := by decide) : PE X (.Name x pos) (tC (vn n)) := by
  obtain ⟨t, ht⟩ := h
  exact pe_glob hg ht ⟨_, rfl⟩ hd
theorem pe_n {n : Nat} {j : Nat} {pos : Pos} : PE X (.Constant (.int (n : Int)) j pos) (tC (vn n)) := pe_int
theorem ev_n {σ : L2.St} {H : Hp} {n : Nat} : Ev (tC (vn n)) σ H (vn n) := ev_c
end

/-- a new list, made of two new ones -/
theorem el_cat {σ : L2.St} {H : Hp} {ta tb : TE} {xs ys : List V} (ha : EvL ta σ H xs) (hb : EvL tb σ H ys) (hl : xs.length + ys.length ≤ 100000) : EvL (tOp rCat ta tb) σ H (xs ++ ys) := fun H1 e Q q =>
  ha H1 e _ fun p H2 hp e2 h2 => hb H2 (e.trans e2) _ fun p' H3 hp' e3 h3 => ⟨p, p', xs, ys, rfl, rfl, e3 p _ h2, h3, sz_of hl, fun l hn => q l _ (fresh_back (e2.trans e3) hn) ((e2.trans e3).trans (Evl.Ex.new hn)) upd_same⟩
/-- .. of a new one and one that stands -/
theorem el_catR {σ : L2.St} {H : Hp} {ta tb : TE} {xs ys : List V} {b : Addr} (ha : EvL ta σ H xs) (hb : Ev tb σ H (.ref b)) (hB : H b = some (.lst ys)) (hl : xs.length + ys.length ≤ 100000) : EvL (tOp rCat ta tb) σ H (xs ++ ys) := fun H1 e Q q =>
  ha H1 e _ fun p H2 hp e2 h2 => hb H2 (e.trans e2) _ fun H3 e3 => ⟨p, b, xs, ys, rfl, rfl, e3 p _ h2, ((e.trans e2).trans e3) b _ hB, sz_of hl, fun l hn => q l _ (fresh_back (e2.trans e3) hn) ((e2.trans e3).trans (Evl.Ex.new hn)) upd_same⟩

/-! ### rules with the written part told (within a comprehension's block) -/
section
variable {X : Cx} {K : PySem.W.Frag}
theorem op_inK (hK : X.K = K) : OpR X (compareOp .In) (rIn K false) := hK ▸ op_in_seq
theorem op_notInK (hK : X.K = K) : OpR X (compareOp .NotIn) (rIn K true) := hK ▸ op_notIn_seq
theorem ix_listK (hK : X.K = K) : IxR X (rIxL K) := hK ▸ ix_list
theorem ix_tupK (hK : X.K = K) : IxR X (rIxT K) := hK ▸ ix_tup
theorem pe_fldK {e : Expr} {ta : TE} {f : Str} {pos : Pos} (hK : X.K = K) (he : PE X e ta) (hb : attributeBase e f X.env (eval e X.env) = eval e X.env) : PE X (.Attribute e f pos) (tFld K ta f) := by
  subst hK
  exact pe_fld he hb
theorem pt_truthK {a : Expr} {ta : TE} (hK : X.K = K) (h : PE X a ta) (he : ∀ whole, isTrue a X.env whole = (do let v ← whole; standAt a.pos; holding [v] (truthy v))) : PT X a (fun σ H Q => ta σ H fun x H' => ∃ k, TruV K x H' k ∧ Q k H') := by
  subst hK
  exact pt_truth h he
end

/-! ### promises of defs that make nothing known otherwise: a value, a new list -/
/-- called with vs it gives v, and all that is known stays -/
def spV (ask : List V → Hp → V → Prop) : Sp := fun vs H Q _ => ∃ v, ask vs H v ∧ RetV v H Q
def spL (ask : List V → Hp → List V → Prop) : Sp := fun vs H Q _ => ∃ xs, ask vs H xs ∧ RetL xs H Q
theorem spV_is {ask : List V → Hp → V → Prop} {vs : List V} {H : Hp} {v : V} (h : ∀ H', Evl.Ex H H' → ask vs H' v) : SpV (spV ask) vs H v := fun H1 e Q q E => ⟨v, h H1 e, q⟩
theorem spL_is {ask : List V → Hp → List V → Prop} {vs : List V} {H : Hp} {xs : List V} (h : ∀ H', Evl.Ex H H' → ask vs H' xs) : SpL (spL ask) vs H xs := fun H1 e Q q E => ⟨xs, h H1 e, fun p H2 hp e2 h2 => q p H2 hp e2 h2⟩

/-! ### fields, methods, comprehensions, all and any, by what they come to -/
section
variable {K : PySem.W.Frag} {σ : L2.St} {H H' : Hp} {ta tb te tl : TE} {tt : TT} {t : TA} {x y z v : V} {a C dx : Addr} {fs : List (Str × V)} {f m : Str} {sp : Sp} {E : XK} {vs xs : List V}
theorem ev_fld (h : Ev ta σ H (.ref a)) (ho : H a = some (.ins C dx fs)) (hc : Cls K C) (hn : NoAttr K C f) (hl : fs.lookup f = some v) : Ev (tFld K ta f) σ H v := fun H1 e Q q => h H1 e _ fun H2 e2 => ⟨a, C, dx, fs, v, rfl, (e.trans e2) _ _ ho, hc, hn, hl, q H2 e2⟩
theorem ev_meth (h : Ev ta σ H (.ref a)) (ho : H a = some (.ins C dx fs)) (hm : fs.lookup m = none) (ha : EvA t σ H vs) (hs : SpV sp (.ref a :: (vs ++ [])) H z) : Ev (tMeth C m sp [] E ta t) σ H z := fun H1 e Q q =>
  h H1 e _ fun H2 e2 => ⟨a, dx, fs, rfl, (e.trans e2) _ _ ho, hm, ha H2 (e.trans e2) _ fun H3 e3 => hs H3 ((e.trans e2).trans e3) Q (fun H4 e4 => q H4 ((e2.trans e3).trans e4)) E⟩
theorem el_meth (h : Ev ta σ H (.ref a)) (ho : H a = some (.ins C dx fs)) (hm : fs.lookup m = none) (ha : EvA t σ H vs) (hs : SpL sp (.ref a :: (vs ++ [])) H xs) : EvL (tMeth C m sp [] E ta t) σ H xs := fun H1 e Q q =>
  h H1 e _ fun H2 e2 => ⟨a, dx, fs, rfl, (e.trans e2) _ _ ho, hm, ha H2 (e.trans e2) _ fun H3 e3 => hs H3 ((e.trans e2).trans e3) Q (fun p H4 hp e4 h4 => q p H4 (fresh_back (e2.trans e3) hp) ((e2.trans e3).trans e4) h4) E⟩
theorem et_yes : EvT tYes σ H true := fun H1 _ _ q => q H1 (Evl.Ex.refl H1)
theorem ev_all {bs : List Bool} (h : EvL te σ H (bs.map V.bl)) : Ev (tCB (rAll K) (tCons te tNil)) σ H (.bl (bs.all id)) := fun H1 e Q q => h H1 e _ fun p H2 _ e2 h2 => ⟨p, bs, rfl, sq_of h2, q H2 e2⟩
theorem ev_any {bs : List Bool} (h : EvL te σ H (bs.map V.bl)) : Ev (tCB (rAny K) (tCons te tNil)) σ H (.bl (bs.any id)) := fun H1 e Q q => h H1 e _ fun p H2 _ e2 h2 => ⟨p, bs, rfl, sq_of h2, q H2 e2⟩
/-- an int's truth -/
theorem et_truN {n : Nat} (h : Ev te σ H (vn n)) : EvT (fun σ H Q => te σ H fun x H' => ∃ k, TruV K x H' k ∧ Q k H') σ H (n != 0) := fun H1 e Q q => h H1 e _ fun H2 e2 => ⟨n != 0, by
  show (n != 0) = ((n : Int) != 0)
  cases n with
  | zero => rfl
  | succ n =>
    have h1 : (n + 1 != 0) = true := by simp
    have h2 : (((n + 1 : Nat) : Int) != 0) = true := by
      rw [bne_iff_ne]
      omega
    rw [h1, h2], q H2 e2⟩
theorem range_getD {α : Type} (d : α) (l : List α) : (List.range l.length).map (fun i => l.getD i d) = l := by
  refine List.ext_getElem? fun i => ?_
  rw [List.getElem?_map]
  by_cases h : i < l.length
  · rw [List.getElem?_range h, List.getElem?_eq_getElem h]
    show some (l.getD i d) = _
    rw [List.getD_eq_getElem?_getD, List.getElem?_eq_getElem h]
    rfl
  · have h1 : (List.range l.length)[i]? = none := List.getElem?_eq_none_iff.mpr (by rw [List.length_range]; omega)
    rw [h1, List.getElem?_eq_none_iff.mpr (by omega)]
    rfl
theorem given_map (l : List Nat) (f : Nat → Bool) (g : Nat → V) : given l.length (fun i => f (l.getD i 0)) (fun i => g (l.getD i 0)) = (l.filter f).map g := by
  unfold given
  have e := range_getD 0 l
  conv => rhs; rw [← e]
  rw [List.filter_map, List.map_map]
  rfl
theorem getD_of {l : List Nat} {i n : Nat} (h : l[i]? = some n) : l.getD i 0 = n := by rw [List.getD_eq_getElem?_getD, h]; rfl
theorem vns_item {l : List Nat} {i : Nat} {x : V} (h : (vns l)[i]? = some x) : x = vn (l.getD i 0) ∧ l.getD i 0 ∈ l := by
  obtain ⟨n, hn, rfl⟩ := vns_get h
  rw [getD_of hn]
  exact ⟨rfl, List.mem_iff_getElem?.mpr ⟨i, hn⟩⟩
theorem el_lcN {l : List Nat} {j : Nat} {vs : List Nat} (f : Nat → Bool) (g : Nat → V) (h : Ev tl σ H (.ref a)) (hx : SqL K H a (vns l)) (hz : l.length ≤ 40000) (hw : ∀ x, wipe ((wipe σ vs).set j (some x)) vs = wipe σ vs)
    (ht : ∀ n ∈ l, ∀ H1, Evl.Ex H H1 → EvT tt ((wipe σ vs).set j (some (vn n))) H1 (f n)) (he : ∀ n ∈ l, ∀ H1, Evl.Ex H H1 → f n = true → Ev te ((wipe σ vs).set j (some (vn n))) H1 (g n)) :
    EvL (tLc (iList K tl) (gName j) tt te vs) σ H ((l.filter f).map g) := by
  have r := el_lcL (j := j) (te := te) (t := tt) (fun i => f (l.getD i 0)) (fun i => g (l.getD i 0)) h hx (by rw [vns_length]; exact hz) hw
    (fun i x H1 e hi => by
      obtain ⟨e1, e2⟩ := vns_item hi
      rw [e1]
      exact ht _ e2 H1 e) (fun i x H1 e hi hf => by
      obtain ⟨e1, e2⟩ := vns_item hi
      rw [e1]
      exact he _ e2 H1 e hf)
  rw [vns_length, given_map] at r
  exact r
theorem el_lcNN {l : List Nat} {j : Nat} {vs : List Nat} (f : Nat → Bool) (g : Nat → V) (h : EvL tl σ H (vns l)) (hz : l.length ≤ 40000) (hw : ∀ x, wipe ((wipe σ vs).set j (some x)) vs = wipe σ vs)
    (ht : ∀ n ∈ l, ∀ H1, Evl.Ex H H1 → EvT tt ((wipe σ vs).set j (some (vn n))) H1 (f n)) (he : ∀ n ∈ l, ∀ H1, Evl.Ex H H1 → f n = true → Ev te ((wipe σ vs).set j (some (vn n))) H1 (g n)) :
    EvL (tLc (iList K tl) (gName j) tt te vs) σ H ((l.filter f).map g) := by
  have r := el_lcNL (j := j) (te := te) (t := tt) (K := K) (fun i => f (l.getD i 0)) (fun i => g (l.getD i 0)) h (by rw [vns_length]; exact hz) hw
    (fun i x H1 e hi => by
      obtain ⟨e1, e2⟩ := vns_item hi
      rw [e1]
      exact ht _ e2 H1 e) (fun i x H1 e hi hf => by
      obtain ⟨e1, e2⟩ := vns_item hi
      rw [e1]
      exact he _ e2 H1 e hf)
  rw [vns_length, given_map] at r
  exact r
theorem filter_true (l : List Nat) : l.filter (fun _ => true) = l := by simp
theorem all_bl (l : List Nat) (p : Nat → Bool) : (l.map p).all id = l.all p := by rw [List.all_map]; rfl
theorem any_bl (l : List Nat) (p : Nat → Bool) : (l.map p).any id = l.any p := by rw [List.any_map]; rfl
/-- all(p(x) for x of a list), any -/
theorem el_bools {l : List Nat} {j : Nat} {vs : List Nat} (p : Nat → Bool) (h : Ev tl σ H (.ref a)) (hx : SqL K H a (vns l)) (hz : l.length ≤ 40000) (hw : ∀ x, wipe ((wipe σ vs).set j (some x)) vs = wipe σ vs)
    (he : ∀ n ∈ l, ∀ H1, Evl.Ex H H1 → Ev te ((wipe σ vs).set j (some (vn n))) H1 (.bl (p n))) : EvL (tLc (iList K tl) (gName j) tYes te vs) σ H ((l.map p).map V.bl) := by
  have r := el_lcN (te := te) (tt := tYes) (fun _ => true) (fun n => V.bl (p n)) h hx hz hw (fun _ _ _ _ => et_yes) (fun n hn H1 e _ => he n hn H1 e)
  rw [filter_true] at r
  rw [List.map_map]
  exact r
theorem el_boolsN {l : List Nat} {j : Nat} {vs : List Nat} (p : Nat → Bool) (h : EvL tl σ H (vns l)) (hz : l.length ≤ 40000) (hw : ∀ x, wipe ((wipe σ vs).set j (some x)) vs = wipe σ vs)
    (he : ∀ n ∈ l, ∀ H1, Evl.Ex H H1 → Ev te ((wipe σ vs).set j (some (vn n))) H1 (.bl (p n))) : EvL (tLc (iList K tl) (gName j) tYes te vs) σ H ((l.map p).map V.bl) := by
  have r := el_lcNN (K := K) (te := te) (tt := tYes) (fun _ => true) (fun n => V.bl (p n)) h hz hw (fun _ _ _ _ => et_yes) (fun n hn H1 e _ => he n hn H1 e)
  rw [filter_true] at r
  rw [List.map_map]
  exact r
/-- the first item -/
theorem ev_ixN {l : List Nat} {i n : Nat} (h : Ev ta σ H (.ref a)) (hi : Ev tb σ H (vn i)) (hs : SqL K H a (vns l)) (hn : l[i]? = some n) : Ev (tOp (rIxL K) ta tb) σ H (vn n) := ev_op h hi (rv_ixL hs (atI_vns hn))
end
/-! ### names told by a tuple -/
section
variable {K : PySem.W.Frag} {σ : L2.St} {H : Hp} {te : TE} {q : Addr} {w1 w2 w3 w4 : V} {i1 i2 i3 i4 : Nat} {D : Ends} {tz : TS}
theorem q_unp2 (h : Ev te σ H (.ref q)) (hq : SqT K H q [w1, w2]) (k : ∀ H1, Evl.Ex H H1 → tz D ((σ.set i1 (some w1)).set i2 (some w2)) H1) : tSeq (tAsg te (gTup K 2 (gCons (gName i1) (gCons (gName i2) gNil)))) tz D σ H :=
  h H (Evl.Ex.refl H) _ fun H1 e => ⟨q, _, rfl, ex_t e hq, rfl, _, _, rfl, _, _, rfl, rfl, k H1 e⟩
theorem q_unp3 (h : Ev te σ H (.ref q)) (hq : SqT K H q [w1, w2, w3]) (k : ∀ H1, Evl.Ex H H1 → tz D (((σ.set i1 (some w1)).set i2 (some w2)).set i3 (some w3)) H1) : tSeq (tAsg te (gTup K 3 (gCons (gName i1) (gCons (gName i2) (gCons (gName i3) gNil))))) tz D σ H :=
  h H (Evl.Ex.refl H) _ fun H1 e => ⟨q, _, rfl, ex_t e hq, rfl, _, _, rfl, _, _, rfl, _, _, rfl, rfl, k H1 e⟩
theorem q_unp4 (h : Ev te σ H (.ref q)) (hq : SqT K H q [w1, w2, w3, w4]) (k : ∀ H1, Evl.Ex H H1 → tz D ((((σ.set i1 (some w1)).set i2 (some w2)).set i3 (some w3)).set i4 (some w4)) H1) : tSeq (tAsg te (gTup K 4 (gCons (gName i1) (gCons (gName i2) (gCons (gName i3) (gCons (gName i4) gNil)))))) tz D σ H :=
  h H (Evl.Ex.refl H) _ fun H1 e => ⟨q, _, rfl, ex_t e hq, rfl, _, _, rfl, _, _, rfl, _, _, rfl, _, _, rfl, rfl, k H1 e⟩
end
end Kx

-- KTop
/-! The places of the program's defs, and what its top binds. Printed by gen.py from the linked text. -/
namespace Kx
open PySem PySem.Spec PyProof.Rows L2 Evl
abbrev tCounted : Stmt := top 1
abbrev tRowsAt : Stmt := top 2
abbrev tInOrder : Stmt := top 4
abbrev tMerged : Stmt := top 5
abbrev tMerge : Stmt := top 6
abbrev tIsDigit : Stmt := top 18
abbrev tIsLabel : Stmt := top 19
abbrev tUtf8 : Stmt := top 20
abbrev tIsChord : Stmt := top 23
abbrev tAllDiffer : Stmt := top 24
abbrev tLabelsFit : Stmt := top 25
abbrev tDigitsFit : Stmt := top 26
abbrev tIsKeyboard : Stmt := top 27
abbrev tBoardInit : Stmt := inClass (top 28) 0
abbrev tBoardOwns : Stmt := inClass (top 28) 1
abbrev tBoardKeysOf : Stmt := inClass (top 28) 2
abbrev tBoardIsBar : Stmt := inClass (top 28) 3
abbrev tCheckOf : Stmt := top 43
abbrev tTicksBytes : Stmt := top 44
abbrev tTicksOf : Stmt := top 45
abbrev tChordBytes : Stmt := top 46
abbrev tChordOfBodies : Stmt := top 47
abbrev tBodyOf : Stmt := top 49
abbrev tTicksIn : Stmt := top 50
abbrev tChordIn : Stmt := top 51
abbrev tFaultIn : Stmt := top 52
abbrev tFaultTold : Stmt := top 55
abbrev tChordTold : Stmt := top 56
abbrev tIsReserved : Stmt := top 70
abbrev tFrame : Stmt := top 71
abbrev tNumberedLineInit : Stmt := inClass (top 72) 0
abbrev tNumberedLineReceive : Stmt := inClass (top 72) 1
abbrev tNumberedLineEnter : Stmt := inClass (top 72) 2
abbrev tNumberedLineLeave : Stmt := inClass (top 72) 3
abbrev tNumberedLinePutEscaped : Stmt := inClass (top 72) 4
abbrev tNumberedLinePut : Stmt := inClass (top 72) 5
abbrev tNumberedLineEndFrame : Stmt := inClass (top 72) 6
abbrev tStrokesInit : Stmt := inClass (top 77) 0
abbrev tStrokesMake : Stmt := inClass (top 77) 1
abbrev tStrokesReach : Stmt := inClass (top 77) 2
abbrev tStrokesPress : Stmt := inClass (top 77) 3
abbrev tStrokesLift : Stmt := inClass (top 77) 4
abbrev tStrokesHandOver : Stmt := inClass (top 77) 5
abbrev tChangesIn : Stmt := top 83
abbrev tFatesOf : Stmt := top 84
abbrev tNewsInit : Stmt := inClass (top 85) 0
abbrev tNewsCome : Stmt := inClass (top 85) 1
abbrev tNewsSettle : Stmt := inClass (top 85) 2
abbrev tIsOutline : Stmt := top 92
abbrev tChordText : Stmt := top 93
abbrev tOutlineText : Stmt := top 94
abbrev tSharedLength : Stmt := top 95
abbrev tPartInit : Stmt := inClass (top 96) 0
abbrev tPartMayDash : Stmt := inClass (top 96) 1
abbrev tPartDash : Stmt := inClass (top 96) 2
abbrev tPartMarks : Stmt := inClass (top 96) 3
abbrev tPartDigitKeyMarks : Stmt := inClass (top 96) 4
abbrev tPartPress : Stmt := inClass (top 96) 5
abbrev tPartPressMark : Stmt := inClass (top 96) 6
abbrev tReadOutline : Stmt := top 97
abbrev tFirstByte : Stmt := top 106
abbrev tPacketOf : Stmt := top 107
abbrev tChordOfPackets : Stmt := top 108
abbrev tSend : Stmt := top 110
abbrev tPlainLineInit : Stmt := inClass (top 111) 0
abbrev tPlainLineReceive : Stmt := inClass (top 111) 1
abbrev tPlainLineJudge : Stmt := inClass (top 111) 2
abbrev tEventsFit : Stmt := top 121
abbrev tHallInit : Stmt := inClass (top 122) 0
abbrev tHallBegin : Stmt := inClass (top 122) 1
abbrev tHallPolicy : Stmt := inClass (top 122) 2
abbrev tHallFeed : Stmt := inClass (top 122) 3
abbrev tHallHeld : Stmt := inClass (top 122) 4
abbrev tHallWrite : Stmt := inClass (top 122) 5
abbrev tHallRead : Stmt := inClass (top 122) 6
abbrev tHallLine : Stmt := inClass (top 122) 7
abbrev tHallTake : Stmt := inClass (top 122) 8
abbrev tAnswerBegun : Stmt := top 135
abbrev tAnswer : Stmt := top 136
abbrev tAnswers : Stmt := top 137
structure Tx (K : PySem.W.Frag) (mg : Str → Option Value) (CBoard CNumberedLine CStrokes CNews CPart CPlainLine CHall : Addr) : Prop where
  g_SPACE : GInt mg "SPACE" 32
  g_BAR_SIGN : GInt mg "BAR_SIGN" 35
  g_DASH : GInt mg "DASH" 45
  g_SLASH : GInt mg "SLASH" 47
  g_DIGIT_ZERO : GInt mg "DIGIT_ZERO" 48
  g_DIGIT_NINE : GInt mg "DIGIT_NINE" 57
  g_DELETE : GInt mg "DELETE" 127
  g_FIRST_SURROGATE : GInt mg "FIRST_SURROGATE" 55296
  g_LAST_SURROGATE : GInt mg "LAST_SURROGATE" 57343
  g_LAST_CHARACTER : GInt mg "LAST_CHARACTER" 1114111
  g_MOST_KEYS : GInt mg "MOST_KEYS" 48
  g_SHORTEST_BODY : GInt mg "SHORTEST_BODY" 10
  g_LONGEST_BODY : GInt mg "LONGEST_BODY" 13
  g_TICKS_START : GInt mg "TICKS_START" 1
  g_CHORD_START : GInt mg "CHORD_START" 8
  g_CHECK_START : GInt mg "CHECK_START" 2
  g_CHORD_LENGTH : GInt mg "CHORD_LENGTH" 6
  g_FIRST_CHECK : GInt mg "FIRST_CHECK" 65535
  g_POLYNOMIAL : GInt mg "POLYNOMIAL" 69665
  g_NO_FAULT : GInt mg "NO_FAULT" 0
  g_TOO_SHORT : GInt mg "TOO_SHORT" 5
  g_WRONG_CHECK : GInt mg "WRONG_CHECK" 6
  g_WRONG_TICKS : GInt mg "WRONG_TICKS" 7
  g_NO_CHORD_bodies : GInt mg "NO_CHORD_bodies" 8
  g_CHORD : GInt mg "CHORD" 0
  g_OPENING : GInt mg "OPENING" 2
  g_CLOSING : GInt mg "CLOSING" 3
  g_ESCAPE : GInt mg "ESCAPE" 16
  g_TURNED_BIT : GInt mg "TURNED_BIT" 32
  g_NUMBERS_frames : GInt mg "NUMBERS_frames" 256
  g_MOST_LOST : GInt mg "MOST_LOST" 127
  g_TICKS_END_frames : GInt mg "TICKS_END_frames" 268435456
  g_STRAY_frames : GInt mg "STRAY_frames" 1
  g_CUT_OFF_frames : GInt mg "CUT_OFF_frames" 2
  g_WRONG_ESCAPE : GInt mg "WRONG_ESCAPE" 3
  g_TOO_LONG : GInt mg "TOO_LONG" 4
  g_OLD : GInt mg "OLD" 9
  g_ALL_UP : GInt mg "ALL_UP" 0
  g_FIRST_UP : GInt mg "FIRST_UP" 1
  g_BY_TIME : GInt mg "BY_TIME" 2
  g_MOST_WAITING : GInt mg "MOST_WAITING" 1024
  g_BELIEVED : GInt mg "BELIEVED" 0
  g_BOUNCED : GInt mg "BOUNCED" 1
  g_UNSURE : GInt mg "UNSURE" 2
  g_MOST_CHORDS : GInt mg "MOST_CHORDS" 10
  g_OPEN : GInt mg "OPEN" 0
  g_WITHOUT_BAR : GInt mg "WITHOUT_BAR" 1
  g_BAR_ALONE : GInt mg "BAR_ALONE" 2
  g_NUMBERS_outlines : GInt mg "NUMBERS_outlines" 3
  g_FIRST_MARK : GInt mg "FIRST_MARK" 128
  g_ODD_MARK : GInt mg "ODD_MARK" 64
  g_PACKET_LENGTH : GInt mg "PACKET_LENGTH" 7
  g_STRAY_packets : GInt mg "STRAY_packets" 1
  g_CUT_OFF_packets : GInt mg "CUT_OFF_packets" 2
  g_WRONG_ODDNESS : GInt mg "WRONG_ODDNESS" 3
  g_NO_CHORD_packets : GInt mg "NO_CHORD_packets" 4
  g_TICKS_END_hall : GInt mg "TICKS_END_hall" 1099511627776
  g_MOST_EVENTS : GInt mg "MOST_EVENTS" 4096
  g_MOST_TEXT : GInt mg "MOST_TEXT" 4096
  g_LAST_WAY : GInt mg "LAST_WAY" 2
  g_MOST_BOUNCE : GInt mg "MOST_BOUNCE" 1000
  g_MOST_GAP : GInt mg "MOST_GAP" 10000
  g_PLAIN : GInt mg "PLAIN" 0
  g_NUMBERED : GInt mg "NUMBERED" 1
  g_BEGIN : GInt mg "BEGIN" 0
  g_POLICY : GInt mg "POLICY" 1
  g_FEED : GInt mg "FEED" 2
  g_HELD : GInt mg "HELD" 3
  g_WRITE : GInt mg "WRITE" 4
  g_READ : GInt mg "READ" 5
  g_MERGE : GInt mg "MERGE" 6
  g_SEND : GInt mg "SEND" 7
  g_FRAME : GInt mg "FRAME" 8
  g_LINE : GInt mg "LINE" 9
  b_all : mg "all" = none
  b_any : mg "any" = none
  b_dict : mg "dict" = none
  b_enumerate : mg "enumerate" = none
  b_len : mg "len" = none
  b_list : mg "list" = none
  b_max : mg "max" = none
  b_range : mg "range" = none
  b_reversed : mg "reversed" = none
  b_set : mg "set" = none
  b_sum : mg "sum" = none
  b_zip : mg "zip" = none
  c_Board : Cls K CBoard
  n_Board_size : NoAttr K CBoard "size"
  n_Board_middle_start : NoAttr K CBoard "middle_start"
  n_Board_right_start : NoAttr K CBoard "right_start"
  n_Board_has_bar : NoAttr K CBoard "has_bar"
  n_Board_labels : NoAttr K CBoard "labels"
  n_Board_digits : NoAttr K CBoard "digits"
  c_NumberedLine : Cls K CNumberedLine
  n_NumberedLine_board : NoAttr K CNumberedLine "board"
  n_NumberedLine_place : NoAttr K CNumberedLine "place"
  n_NumberedLine_start : NoAttr K CNumberedLine "start"
  n_NumberedLine_body : NoAttr K CNumberedLine "body"
  n_NumberedLine_escaped : NoAttr K CNumberedLine "escaped"
  n_NumberedLine_awaited : NoAttr K CNumberedLine "awaited"
  c_Strokes : Cls K CStrokes
  n_Strokes_way : NoAttr K CStrokes "way"
  n_Strokes_gap : NoAttr K CStrokes "gap"
  n_Strokes_keys_down : NoAttr K CStrokes "keys_down"
  n_Strokes_gone_down : NoAttr K CStrokes "gone_down"
  n_Strokes_last_down : NoAttr K CStrokes "last_down"
  n_Strokes_made : NoAttr K CStrokes "made"
  c_News : Cls K CNews
  n_News_bounce : NoAttr K CNews "bounce"
  n_News_pressed : NoAttr K CNews "pressed"
  n_News_last_ups : NoAttr K CNews "last_ups"
  n_News_waiting : NoAttr K CNews "waiting"
  n_News_strokes : NoAttr K CNews "strokes"
  c_Part : Cls K CPart
  n_Part_board : NoAttr K CPart "board"
  n_Part_chord : NoAttr K CPart "chord"
  n_Part_lowest : NoAttr K CPart "lowest"
  n_Part_right_open : NoAttr K CPart "right_open"
  n_Part_settled : NoAttr K CPart "settled"
  n_Part_complete : NoAttr K CPart "complete"
  c_PlainLine : Cls K CPlainLine
  n_PlainLine_board : NoAttr K CPlainLine "board"
  n_PlainLine_place : NoAttr K CPlainLine "place"
  n_PlainLine_start : NoAttr K CPlainLine "start"
  n_PlainLine_packet : NoAttr K CPlainLine "packet"
  c_Hall : Cls K CHall
  n_Hall_board : NoAttr K CHall "board"
  n_Hall_news : NoAttr K CHall "news"
  n_Hall_now : NoAttr K CHall "now"
  n_Hall_wire : NoAttr K CHall "wire"
  d_Board_NumberedLine : CBoard ≠ CNumberedLine
  d_Board_Strokes : CBoard ≠ CStrokes
  d_Board_News : CBoard ≠ CNews
  d_Board_Part : CBoard ≠ CPart
  d_Board_PlainLine : CBoard ≠ CPlainLine
  d_Board_Hall : CBoard ≠ CHall
  d_NumberedLine_Strokes : CNumberedLine ≠ CStrokes
  d_NumberedLine_News : CNumberedLine ≠ CNews
  d_NumberedLine_Part : CNumberedLine ≠ CPart
  d_NumberedLine_PlainLine : CNumberedLine ≠ CPlainLine
  d_NumberedLine_Hall : CNumberedLine ≠ CHall
  d_Strokes_News : CStrokes ≠ CNews
  d_Strokes_Part : CStrokes ≠ CPart
  d_Strokes_PlainLine : CStrokes ≠ CPlainLine
  d_Strokes_Hall : CStrokes ≠ CHall
  d_News_Part : CNews ≠ CPart
  d_News_PlainLine : CNews ≠ CPlainLine
  d_News_Hall : CNews ≠ CHall
  d_Part_PlainLine : CPart ≠ CPlainLine
  d_Part_Hall : CPart ≠ CHall
  d_PlainLine_Hall : CPlainLine ≠ CHall
end Kx

-- KSet
/-! len(set(xs)) of whole numbers, some of which may stand twice. -/
namespace Kx
open PySem PySem.Spec PyProof.Rows L2 Evl

/-- how many different ones -/
def dcount (ns : List Int) : Nat := (firstMet (fun i => ns.getD i 0) ns.length).length
theorem firstMet_fold (ns : List Int) : firstMet (fun i => ns.getD i 0) ns.length = ns.foldl step_dedup [] := by
  have e : (List.range ns.length).map (fun i => ns.getD i 0) = ns := by
    refine List.ext_getElem? fun i => ?_
    rw [List.getElem?_map]
    by_cases h : i < ns.length
    · rw [List.getElem?_range h, List.getElem?_eq_getElem h]
      show some (ns.getD i 0) = _
      rw [List.getD_eq_getElem?_getD, List.getElem?_eq_getElem h]
      rfl
    · have h1 : (List.range ns.length)[i]? = none := List.getElem?_eq_none_iff.mpr (by rw [List.length_range]; omega)
      rw [h1, List.getElem?_eq_none_iff.mpr (by omega)]
      rfl
  unfold firstMet
  rw [e]
theorem step_dedup_is (acc : List Int) (x : Int) : step_dedup acc x = if x ∈ acc then acc else acc ++ [x] := by
  unfold step_dedup
  by_cases h : x ∈ acc
  · rw [if_pos h, if_pos (show (acc.any fun y => y == x) = true from List.any_eq_true.mpr ⟨x, h, beq_self_eq_true x⟩)]
  · rw [if_neg h, if_neg]
    intro z
    obtain ⟨y, hy, ey⟩ := List.any_eq_true.mp z
    exact h (eq_of_beq ey ▸ hy)
theorem fold_len : ∀ (l acc : List Int), (l.foldl step_dedup acc).length ≤ acc.length + l.length ∧ ((l.foldl step_dedup acc).length = acc.length + l.length ↔ l.Nodup ∧ ∀ x ∈ l, x ∉ acc)
  | [], acc => ⟨Nat.le_refl _, ⟨fun _ => ⟨List.nodup_nil, fun x hx => (by cases hx)⟩, fun _ => rfl⟩⟩
  | a :: r, acc => by
    rw [List.foldl_cons, step_dedup_is]
    by_cases h : a ∈ acc
    · rw [if_pos h]
      have ih := fold_len r acc
      refine ⟨by rw [List.length_cons]; omega, ⟨fun z => ?_, fun z => absurd h (z.2 a List.mem_cons_self)⟩⟩
      rw [List.length_cons] at z
      have := ih.1
      omega
    · rw [if_neg h]
      have ih := fold_len r (acc ++ [a])
      rw [List.length_append, List.length_singleton] at ih
      refine ⟨by rw [List.length_cons]; omega, ?_⟩
      rw [List.length_cons, show acc.length + (r.length + 1) = acc.length + 1 + r.length by omega, ih.2, List.nodup_cons]
      constructor
      · rintro ⟨nd, no⟩
        refine ⟨⟨fun z => no a z (List.mem_append_right _ List.mem_cons_self), nd⟩, fun x hx => ?_⟩
        rcases List.mem_cons.mp hx with q | q
        · rw [q]; exact h
        · exact fun z => no x q (List.mem_append_left _ z)
      · rintro ⟨⟨na, nd⟩, no⟩
        refine ⟨nd, fun x hx z => ?_⟩
        rcases List.mem_append.mp z with q | q
        · exact no x (List.mem_cons_of_mem _ hx) q
        · rw [List.mem_singleton] at q
          exact na (q ▸ hx)
theorem dcount_le (ns : List Int) : dcount ns ≤ ns.length := by
  unfold dcount
  rw [firstMet_fold]
  have := (fold_len ns []).1
  simpa using this
theorem dcount_nodup (ns : List Int) : dcount ns = ns.length ↔ ns.Nodup := by
  unfold dcount
  rw [firstMet_fold]
  have := (fold_len ns []).2
  simpa using this
theorem nodup_ints (l : List Nat) : (l.map fun n : Nat => (n : Int)).Nodup ↔ l.Nodup := by
  unfold List.Nodup
  rw [List.pairwise_map]
  constructor <;> intro h <;> refine h.imp fun {a b} q => ?_
  · exact fun z => q (by rw [z])
  · exact fun z => q (by omega)

def tLenSetG (K : PySem.W.Frag) (ta : TE) : TE := fun σ H Q => ta σ H fun x H1 => ∃ (l : Addr) (ns : List Int), x = .ref l ∧ SqL K H1 l (ns.map V.int) ∧ ns.length ≤ 4000 ∧ Q (vn (dcount ns)) H1
theorem pe_lenSetG {X : Cx} {a : Expr} {ta : TE} {p p2 q pos : Pos} (hg : Gl X "len") (hm : X.mg "len" = none) (hg2 : Gl X "set") (hm2 : X.mg "set" = none) (ha : PE X a ta) (hc : X.calm = true := by rfl)
    (na : starEach [a] X.env = (false, eval a X.env) :: starEach [] X.env := by rfl) : PE X (.Call (.Name "len" p) [.Call (.Name "set" p2) [a] [] q] [] pos) (tLenSetG X.K ta) := by
  refine ⟨fun pins s σ H Q I h => ?_⟩
  refine Call_ (ld_blt I hg hm boot_len ?_)
  refine callWith_builtin1 (args_cons ?_ rfl) rfl rfl
  refine Call_ (ld_blt I hg2 hm2 boot_set ?_)
  refine callWith_type1 (args_cons (thn (ha.run pins s σ H _ I h) fun v s1 ⟨x, H1, I1, r1, q1⟩ => args_nil ?_) na) na rfl
  obtain ⟨l, ns, rfl, hq, hl, q1⟩ := q1
  cases r1
  obtain ⟨its, r, pl, hz⟩ := I1.list hq
  have hlen : its.toArray.size = ns.length := by rw [List.size_toArray, ← r.length, List.length_map]
  refine call_set_list (I1.ok.hd hc) pl.isList (by simpa using RZ.intsAre_vals r) (by rw [hlen]; unfold scanBound; omega) fun h' tk hS hk => ?_
  refine args_nil ?_
  rw [hlen] at hS
  obtain ⟨o, es, ep, t, ho, hex, hd, _, _, _, hf, hn⟩ := hS
  have I2 : Inv X pins σ H1 { s1 with heap := h', toks := tk } := I1.kept fun b o e => hk b o (Heap.lt_size e) e
  have le := dcount_le ns
  exact call_len_set ho hex hd hf (by
    rw [hn]
    unfold dcount at le
    omega) ⟨vn (dcount ns), H1, I2.tok _, ⟨_, by rw [hn]; rfl⟩, q1⟩
theorem ev_lenSet {K : PySem.W.Frag} {σ : L2.St} {H : Hp} {ta : TE} {l : Addr} {ns : List Nat} (ha : Ev ta σ H (.ref l)) (h : SqL K H l (vns ns)) (hl : ns.length ≤ 4000) : Ev (tLenSetG K ta) σ H (vn (dcount (ns.map fun n : Nat => (n : Int)))) := fun H1 e Q q =>
  ha H1 e _ fun H2 e2 => ⟨l, ns.map fun n : Nat => (n : Int), rfl, by
    rw [List.map_map]
    exact ex_l (e.trans e2) h, by rw [List.length_map]; exact hl, q H2 e2⟩
end Kx

-- KLetters
namespace Kx
open PySem PySem.Spec PyProof.Rows L2 Evl

section
variable {P : Program} {w : World} {K : PySem.W.Frag} {mg : Str → Option Value} {base : Heap} {CBoard CNumberedLine CStrokes CNews CPart CPlainLine CHall : Addr}
/-! ### is_digit -/
def isDig (n : Nat) : Bool := decide (48 ≤ n) && decide (n ≤ 57)
def spIsDigit : Sp := spV fun vs _ v => ∃ n : Nat, vs = [vn n] ∧ v = .bl (isDig n)
theorem scIsDigit : FnScope ["character"] ["character"] (defScope tIsDigit) := ⟨rfl, rfl, rfl, by decide +kernel, rfl, by decide +kernel, by decide +kernel⟩
theorem ev_chain {σ : L2.St} {H : Hp} {ta tb tc : TE} {n m l : Nat} (ha : Ev ta σ H (vn n)) (hb : Ev tb σ H (vn m)) (hc : Ev tc σ H (vn l)) :
    Ev (tChain rLeN rLeN ta tb tc) σ H (.bl (decide (n ≤ m) && decide (m ≤ l))) := fun H1 e Q q =>
  ha H1 e _ fun H2 e2 => hb H2 (e.trans e2) _ fun H3 e3 => ⟨n, m, rfl, rfl, trivial, decide (n ≤ m), rfl, by
    cases h : decide (n ≤ m) with
    | true =>
      rw [if_pos rfl]
      exact hc H3 ((e.trans e2).trans e3) _ fun H4 e4 => ⟨m, l, rfl, rfl, trivial, by
        rw [h] at q
        exact q H4 ((e2.trans e3).trans e4)⟩
    | false =>
      rw [if_neg Bool.false_ne_true]
      rw [h] at q
      exact q H3 (e2.trans e3)⟩
theorem ok_is_digit {f : Addr} {fd : FuncData} (D : Raw K mg "is_digit" tIsDigit f fd) (T : Tx K mg CBoard CNumberedLine CStrokes CNews CPart CPlainLine CHall) : Ok P w K mg base 1 "is_digit" ["character"] spIsDigit f fd := by
  refine ⟨D.fn.ok scIsDigit (fun vs H Q E h => ?_) (fun cdv A outer s H vs Q E hr h => ⟨_,
    (pss_one (ps_ret (pe_chain on_le on_le (pe_gi T.g_DIGIT_ZERO) (pv 0) (pe_gi T.g_DIGIT_NINE)))), ?_⟩), D.at_, D.fn.kp, D.fn.binds fun _ _ _ _ _ _ us hl => match us, hl with | [_], _ => rfl⟩
  · obtain ⟨v, ⟨n, rfl, rfl⟩, k⟩ := h
    rfl
  · obtain ⟨v, ⟨n, rfl, rfl⟩, k⟩ := h
    exact s_ret (ev_chain ev_c (ev_var rfl) ev_c) fun H1 e => k H1 e

/-! ### is_label -/
def isLab (n : Nat) : Bool := !(decide (n ≤ 32) || decide (1114111 < n)) && (!(decide (55296 ≤ n) && decide (n ≤ 57343)) && (!(decide (n = 35) || decide (n = 45) || decide (n = 47) || decide (n = 127)) && !isDig n))
def spIsLabel : Sp := spV fun vs _ v => ∃ n : Nat, vs = [vn n] ∧ v = .bl (isLab n)
theorem scIsLabel : FnScope ["character"] ["character"] (defScope tIsLabel) := ⟨rfl, rfl, rfl, by decide +kernel, rfl, by decide +kernel, by decide +kernel⟩
theorem ok_is_label {f fI : Addr} {fd fdI : FuncData} (D : Raw K mg "is_label" tIsLabel f fd) (T : Tx K mg CBoard CNumberedLine CStrokes CNews CPart CPlainLine CHall) (G_is_digit : Ok P w K mg base 1 "is_digit" ["character"] spIsDigit fI fdI) : Ok P w K mg base 2 "is_label" ["character"] spIsLabel f fd := by
  refine ⟨D.fn.ok scIsLabel (fun vs H Q E h => ?_) (fun cdv A outer s H vs Q E hr h => ⟨_,
    (pss_cons (ps_if (PW.pt (pw_or (pt_cmpR on_le (pv 0) (pe_gi T.g_SPACE) (nomark _)) (pw_or1 (pt_cmpR on_gt (pv 0) (pe_gi T.g_LAST_CHARACTER) (nomark _))))) (pss_one (ps_ret pe_bl)) pss_nil)
    (pss_cons (ps_if (pt_chain on_le on_le (pe_gi T.g_FIRST_SURROGATE) (pv 0) (pe_gi T.g_LAST_SURROGATE)) (pss_one (ps_ret pe_bl)) pss_nil)
    (pss_one (ps_ret (pe_and (pe_cmpR op_notIn_seq (pv 0) (pe_tup (pa_cons (pe_gi T.g_BAR_SIGN) (pa_cons (pe_gi T.g_DASH) (pa_cons (pe_gi T.g_SLASH) (pa_cons (pe_gi T.g_DELETE) pa_nil))))) (by rfl)) (pe_one (pe_not (pe_own G_is_digit hr (pa_cons (pv 0) pa_nil))))))))), ?_⟩), D.at_, D.fn.kp, D.fn.binds fun _ _ _ _ _ _ us hl => match us, hl with | [_], _ => rfl⟩
  · obtain ⟨v, ⟨n, rfl, rfl⟩, k⟩ := h
    rfl
  · obtain ⟨v, ⟨n, rfl, rfl⟩, k⟩ := h
    refine q_when (et_or (etN (ev_var rfl) ev_c trivial) fun _ => etN (ev_var rfl) ev_c trivial) (fun h1 H1 e1 => s_ret ev_c fun H2 e2 => ?_) (fun h1 H1 e1 => ?_)
    · have : isLab n = false := by unfold isLab; rw [h1]; rfl
      rw [this] at k
      exact k H2 (e1.trans e2)
    · refine q_when (et_test (ev_chain ev_c (ev_var rfl) ev_c)) (fun h2 H2 e2 => s_ret ev_c fun H3 e3 => ?_) (fun h2 H2 e2 => ?_)
      · have : isLab n = false := by unfold isLab; rw [h1, h2]; rfl
        rw [this] at k
        exact k H3 ((e1.trans e2).trans e3)
      · refine s_ret (ev_andV (ev_niU (ev_var rfl) (eu_tup (ea_cons ev_c (ea_cons ev_c (ea_cons ev_c (ea_cons ev_c ea_nil)))) (by decide)) rfl rfl) fun _ => ev_notV (ev_call (ea_cons (ev_var rfl) ea_nil) (spV_is fun H' _ => ⟨n, rfl, rfl⟩))) fun H3 e3 => ?_
        have : isLab n = (!inV (vn n) [vn 35, vn 45, vn 47, vn 127] && !isDig n) := by
          unfold isLab
          rw [h1, h2]
          have e : inV (vn n) [vn 35, vn 45, vn 47, vn 127] = (decide (n = 35) || decide (n = 45) || decide (n = 47) || decide (n = 127)) := by
            refine (inV_vns n [35, 45, 47, 127]).trans ?_
            by_cases h3 : n = 35 <;> by_cases h4 : n = 45 <;> by_cases h5 : n = 47 <;> by_cases h6 : n = 127 <;> simp [h3, h4, h5, h6]
          rw [e]
          rfl
        rw [this] at k
        exact k H3 ((e1.trans e2).trans e3)

/-! ### utf8 -/
def u8n (c : Nat) : List Nat :=
  if c < 128 then [c] else if c < 2048 then [192 + c / 64] ++ [128 + c % 64]
  else if c < 65536 then [224 + c / 4096] ++ ([128 + c / 64 % 64] ++ [128 + c % 64])
  else [240 + c / 262144, 128 + c / 4096 % 64] ++ ([128 + c / 64 % 64] ++ [128 + c % 64])
theorem u8n_is {c : Nat} (h : c < 1114112) : u8n c = (Cd.utf8 c).map UInt8.toNat := by
  have e : ∀ n : Nat, n < 256 → (UInt8.ofNat n).toNat = n := fun n hn => by
    rw [UInt8.toNat_ofNat']
    omega
  unfold u8n Cd.utf8
  by_cases h1 : c < 128
  · rw [if_pos h1, if_pos h1, List.map_cons, List.map_nil, e _ (by omega)]
  · rw [if_neg h1, if_neg h1]
    by_cases h2 : c < 2048
    · rw [if_pos h2, if_pos h2, List.map_cons, List.map_cons, List.map_nil, e _ (by omega), e _ (by omega)]
      rfl
    · rw [if_neg h2, if_neg h2]
      by_cases h3 : c < 65536
      · rw [if_pos h3, if_pos h3, List.map_cons, List.map_cons, List.map_cons, List.map_nil, e _ (by omega), e _ (by omega), e _ (by omega)]
        rfl
      · rw [if_neg h3, if_neg h3, List.map_cons, List.map_cons, List.map_cons, List.map_cons, List.map_nil, e _ (by omega), e _ (by omega), e _ (by omega), e _ (by omega)]
        rfl
def spUtf8 : Sp := spL fun vs _ xs => ∃ c : Nat, vs = [vn c] ∧ xs = vns (u8n c)
theorem scUtf8 : FnScope ["character", "tail"] ["character"] (defScope tUtf8) := ⟨rfl, rfl, rfl, by decide +kernel, rfl, by decide +kernel, by decide +kernel⟩
theorem ok_utf8 {f : Addr} {fd : FuncData} (D : Raw K mg "utf8" tUtf8 f fd) : Ok P w K mg base 1 "utf8" ["character"] spUtf8 f fd := by
  refine ⟨D.fn.ok scUtf8 (fun vs H Q E h => ?_) (fun cdv A outer s H vs Q E hr h => ⟨_,
    (pss_cons (ps_if (pt_cmpR on_lt (pv 0) pe_n (nomark _)) (pss_one (ps_ret (pe_lst (pa_cons (pv 0) pa_nil)))) pss_nil)
    (pss_cons (ps_set (i := 1) scUtf8.nd rfl (Or.inl rfl) (pe_lst (pa_cons (pe_op on_add pe_n (pe_op on_mod (pv 0) pe_n)) pa_nil)))
    (pss_cons (ps_if (pt_cmpR on_lt (pv 0) pe_n (nomark _)) (pss_one (ps_ret (pe_op op_cat (pe_lst (pa_cons (pe_op on_add pe_n (pe_op on_div (pv 0) pe_n)) pa_nil)) (pv 1)))) pss_nil)
    (pss_cons (ps_set (i := 1) scUtf8.nd rfl (Or.inl rfl) (pe_op op_cat (pe_lst (pa_cons (pe_op on_add pe_n (pe_op on_mod (pe_op on_div (pv 0) pe_n) pe_n)) pa_nil)) (pv 1)))
    (pss_cons (ps_if (pt_cmpR on_lt (pv 0) pe_n (nomark _)) (pss_one (ps_ret (pe_op op_cat (pe_lst (pa_cons (pe_op on_add pe_n (pe_op on_div (pv 0) pe_n)) pa_nil)) (pv 1)))) pss_nil)
    (pss_one (ps_ret (pe_op op_cat (pe_lst (pa_cons (pe_op on_add pe_n (pe_op on_div (pv 0) pe_n)) (pa_cons (pe_op on_add pe_n (pe_op on_mod (pe_op on_div (pv 0) pe_n) pe_n)) pa_nil))) (pv 1))))))))), ?_⟩), D.at_, D.fn.kp, D.fn.binds fun _ _ _ _ _ _ us hl => match us, hl with | [_], _ => rfl⟩
  · obtain ⟨v, ⟨n, rfl, rfl⟩, k⟩ := h
    rfl
  · obtain ⟨v, ⟨c, rfl, rfl⟩, k⟩ := h
    refine q_when (etN (ev_var rfl) ev_n trivial) (fun h1 H1 e1 => s_retL (el_lst (ea_cons (ev_var rfl) ea_nil) few) fun p H2 hp e2 h2 => ?_) (fun h1 H1 e1 => ?_)
    · have e : u8n c = [c] := if_pos (of_decide_eq_true h1)
      rw [e] at k
      exact k.go e1 hp e2 h2
    · refine q_asgL (el_lst (ea_cons (evN ev_n (evN (ev_var rfl) ev_n (by decide)) trivial) ea_nil) few) fun p1 H2 hp1 e2 h2 => ?_
      have n1 : ¬ c < 128 := of_decide_eq_false h1
      refine q_when (etN (ev_var rfl) ev_n trivial) (fun h3 H3 e3 => s_retL (el_catR (el_lst (ea_cons (evN ev_n (evN (ev_var rfl) ev_n (by decide)) trivial) ea_nil) few) (ev_var rfl) (e3 _ _ h2) few) fun p H4 hp e4 h4 => ?_) (fun h3 H3 e3 => ?_)
      · have e : u8n c = [192 + c / 64] ++ [128 + c % 64] := (if_neg n1).trans (if_pos (of_decide_eq_true h3))
        rw [e] at k
        exact k.go ((e1.trans e2).trans e3) hp e4 h4
      · have n2 : ¬ c < 2048 := of_decide_eq_false h3
        refine q_asgL (el_catR (el_lst (ea_cons (evN ev_n (evN (evN (ev_var rfl) ev_n (by decide)) ev_n (by decide)) trivial) ea_nil) few) (ev_var rfl) (e3 _ _ h2) few) fun p2 H4 hp2 e4 h4 => ?_
        refine q_when (etN (ev_var rfl) ev_n trivial) (fun h5 H5 e5 => s_retL (el_catR (el_lst (ea_cons (evN ev_n (evN (ev_var rfl) ev_n (by decide)) trivial) ea_nil) few) (ev_var rfl) (e5 _ _ h4) few) fun p H6 hp e6 h6 => ?_) (fun h5 H5 e5 => ?_)
        · have e : u8n c = [224 + c / 4096] ++ ([128 + c / 64 % 64] ++ [128 + c % 64]) := (if_neg n1).trans ((if_neg n2).trans (if_pos (of_decide_eq_true h5)))
          rw [e] at k
          exact k.go ((((e1.trans e2).trans e3).trans e4).trans e5) hp e6 h6
        · have n3 : ¬ c < 65536 := of_decide_eq_false h5
          refine s_retL (el_catR (el_lst (ea_cons (evN ev_n (evN (ev_var rfl) ev_n (by decide)) trivial) (ea_cons (evN ev_n (evN (evN (ev_var rfl) ev_n (by decide)) ev_n (by decide)) trivial) ea_nil)) few) (ev_var rfl) (e5 _ _ h4) few) fun p H6 hp e6 h6 => ?_
          have e : u8n c = [240 + c / 262144, 128 + c / 4096 % 64] ++ ([128 + c / 64 % 64] ++ [128 + c % 64]) := (if_neg n1).trans ((if_neg n2).trans (if_neg n3))
          rw [e] at k
          exact k.go ((((e1.trans e2).trans e3).trans e4).trans e5) hp e6 h6
end
end Kx

-- KRows
namespace Kx
open PySem PySem.Spec PyProof.Rows L2 Evl

/-! ### slices -/
theorem drop_min {α : Type} (l : List α) (i : Nat) : l.drop (min i l.length) = l.drop i := by
  by_cases h : i ≤ l.length
  · rw [Nat.min_eq_left h]
  · rw [Nat.min_eq_right (by omega), List.drop_eq_nil_of_le (Nat.le_refl _), List.drop_eq_nil_of_le (by omega)]
theorem cut_nn (xs : List V) (i j : Nat) : cutV xs (some (i : Int)) (some (j : Int)) = (xs.drop i).take (j - i) := by
  unfold cutV
  rw [HT.sIx_nat, HT.sIx_nat, drop_min]
  refine List.ext_getElem? fun k => ?_
  rw [List.getElem?_take, List.getElem?_take, List.getElem?_drop]
  by_cases h : i + k < xs.length
  · by_cases h2 : k < j - i
    · rw [if_pos h2, if_pos (by omega)]
    · rw [if_neg h2, if_neg (by omega)]
  · have e : xs[i + k]? = none := List.getElem?_eq_none_iff.mpr (by omega)
    rw [e]
    split <;> split <;> rfl
theorem cut_n0 (xs : List V) (i : Nat) : cutV xs (some (i : Int)) none = xs.drop i := by
  unfold cutV
  rw [HT.sIx_nat, HT.sIx_none, drop_min]
  refine List.take_of_length_le ?_
  rw [List.length_drop]
  omega
theorem cut_0n (xs : List V) (j : Nat) : cutV xs none (some (j : Int)) = xs.take j := by
  unfold cutV
  rw [HT.sIx_nat, HT.sIx_none, List.drop_zero, Nat.sub_zero]
  by_cases h : j ≤ xs.length
  · rw [Nat.min_eq_left h]
  · rw [Nat.min_eq_right (by omega), List.take_of_length_le (Nat.le_refl _), List.take_of_length_le (by omega)]
theorem vns_drop (l : List Nat) (i : Nat) : (vns l).drop i = vns (l.drop i) := List.map_drop.symm
theorem vns_take (l : List Nat) (i : Nat) : (vns l).take i = vns (l.take i) := List.map_take.symm

section
variable {K : PySem.W.Frag} {σ : L2.St} {H : Hp} {te tl tu : TE} {a : Addr} {l : List Nat} {i j : Nat}
theorem el_from (h : Ev te σ H (.ref a)) (hi : Ev tl σ H (vn i)) (hs : SqL K H a (vns l)) : EvL (tSl (rSlL K) te (tPart tl) tNoPart) σ H (vns (l.drop i)) := by
  have r := el_sl h (eo_some hi) eo_none hs
  rw [cut_n0, vns_drop] at r
  exact r
theorem el_to (h : Ev te σ H (.ref a)) (hi : Ev tl σ H (vn j)) (hs : SqL K H a (vns l)) : EvL (tSl (rSlL K) te tNoPart (tPart tl)) σ H (vns (l.take j)) := by
  have r := el_sl h eo_none (eo_some hi) hs
  rw [cut_0n, vns_take] at r
  exact r
theorem el_part (h : Ev te σ H (.ref a)) (hi : Ev tl σ H (vn i)) (hj : Ev tu σ H (vn j)) (hs : SqL K H a (vns l)) : EvL (tSl (rSlL K) te (tPart tl) (tPart tu)) σ H (vns ((l.drop i).take (j - i))) := by
  have r := el_sl h (eo_some hi) (eo_some hj) hs
  rw [cut_nn, vns_drop, vns_take] at r
  exact r
end

section
variable {P : Program} {w : World} {K : PySem.W.Frag} {mg : Str → Option Value} {base : Heap} {CBoard CNumberedLine CStrokes CNews CPart CPlainLine CHall : Addr}
/-! ### counted -/
/-- how many numbers a row has, and these -/
def cntd (l : List Nat) : List Nat := l.length :: l
def spCounted : Sp := spL fun vs H xs => ∃ (a : Addr) (l : List V), vs = [.ref a] ∧ H a = some (.lst l) ∧ l.length ≤ 90000 ∧ xs = vn l.length :: l
theorem cnt_vns (l : List Nat) : vn (vns l).length :: vns l = vns (cntd l) := by
  rw [vns_length]
  rfl
theorem scCounted : FnScope ["row"] ["row"] (defScope tCounted) := ⟨rfl, rfl, rfl, by decide +kernel, rfl, by decide +kernel, by decide +kernel⟩
theorem ok_counted {f : Addr} {fd : FuncData} (D : Raw K mg "counted" tCounted f fd) (T : Tx K mg CBoard CNumberedLine CStrokes CNews CPart CPlainLine CHall) : Ok P w K mg base 1 "counted" ["row"] spCounted f fd := by
  refine ⟨D.fn.ok scCounted (fun vs H Q E h => ?_) (fun cdv A outer s H vs Q E hr h => ⟨_,
    (pss_one (ps_ret (pe_op op_cat (pe_lst (pa_cons (pe_callB call_len_seq (by rfl) T.b_len PySem.boot_len (pa_cons (pv 0) pa_nil)) pa_nil)) (pv 0)))), ?_⟩), D.at_, D.fn.kp, D.fn.binds fun _ _ _ _ _ _ us hl => match us, hl with | [_], _ => rfl⟩
  · obtain ⟨v, ⟨a, l, rfl, _⟩, k⟩ := h
    rfl
  · obtain ⟨v, ⟨a, l, rfl, ha, hl, rfl⟩, k⟩ := h
    refine s_retL (xs := vn l.length :: l) ?_ fun p H1 hp e1 h1 => k p H1 hp e1 h1
    refine el_catR (xs := [vn l.length]) (ys := l) (el_lst (ea_cons (ev_len (ev_var rfl) (sq_of ha)) ea_nil) few) (ev_var rfl) ha ?_
    show 1 + l.length ≤ 100000
    omega

/-! ### rows_at -/
/-- so many counted rows from a place on, and the place behind them -/
def rowsFrom (ns : List Nat) : Nat → Nat → Option (List (List Nat) × Nat)
  | 0, p => some ([], p)
  | k + 1, p => match ns[p]? with
    | none => none
    | some m => if p + 1 + m ≤ ns.length then (match rowsFrom ns k (p + 1 + m) with
      | none => none
      | some z => some ((ns.drop (p + 1)).take m :: z.1, z.2)) else none
/-- lists at addresses -/
def RowsAt (H : Hp) : List Addr → List (List Nat) → Prop
  | [], [] => True
  | a :: as, r :: rs => H a = some (.lst (vns r)) ∧ RowsAt H as rs
  | _, _ => False
theorem RowsAt.ex {H H' : Hp} (e : Evl.Ex H H') : ∀ {as : List Addr} {rs : List (List Nat)}, RowsAt H as rs → RowsAt H' as rs
  | [], [], _ => trivial
  | _ :: _, _ :: _, ⟨h, t⟩ => ⟨e _ _ h, t.ex e⟩
  | [], _ :: _, h => h.elim
  | _ :: _, [], h => h.elim
theorem RowsAt.snoc {H : Hp} {a : Addr} {r : List Nat} (h : H a = some (.lst (vns r))) : ∀ {as : List Addr} {rs : List (List Nat)}, RowsAt H as rs → RowsAt H (as ++ [a]) (rs ++ [r])
  | [], [], _ => ⟨h, trivial⟩
  | _ :: _, _ :: _, ⟨h1, t⟩ => ⟨h1, t.snoc h⟩
  | [], _ :: _, h => h.elim
  | _ :: _, [], h => h.elim
theorem RowsAt.length {H : Hp} : ∀ {as : List Addr} {rs : List (List Nat)}, RowsAt H as rs → as.length = rs.length
  | [], [], _ => rfl
  | _ :: _, _ :: _, ⟨_, t⟩ => congrArg (· + 1) t.length
  | [], _ :: _, h => h.elim
  | _ :: _, [], h => h.elim
/-- an address that the heap does not know holds none of the rows -/
theorem RowsAt.upd {H : Hp} {p : Addr} {o : HO} : ∀ {as : List Addr} {rs : List (List Nat)}, RowsAt H as rs → (∀ xs, H p = some (.lst xs) → p ∉ as) → RowsAt (upd H p o) as rs
  | [], [], _, _ => trivial
  | a :: as, r :: rs, ⟨h, t⟩, no => ⟨by
      rw [upd_ne]
      · exact h
      · rintro rfl
        exact no _ h List.mem_cons_self, t.upd fun xs hx z => no xs hx (List.mem_cons_of_mem _ z)⟩
  | [], _ :: _, h, _ => h.elim
  | _ :: _, [], h, _ => h.elim
def refs (as : List Addr) : List V := as.map V.ref
/-- what rows_at hands back: a new tuple of a new list of new lists, and the place -/
def spRowsAt (K : PySem.W.Frag) : Sp := fun vs H Q _ => ∃ (a : Addr) (ns : List Nat) (p k q : Nat) (rows : List (List Nat)), vs = [.ref a, vn p, vn k] ∧ SqL K H a (vns ns) ∧ k ≤ 2 ∧ rowsFrom ns k p = some (rows, q) ∧
  ∀ (H' : Hp) (t l : Addr) (as : List Addr), Evl.Ex H H' → H' t = some (.tup [.ref l, vn q]) → H' l = some (.lst (refs as)) → RowsAt H' as rows → (∀ a ∈ as, H a = none) → Q (.ref t) H'
theorem scRowsAt : FnScope ["numbers", "place", "count", "rows", "start"] ["numbers", "place", "count"] (defScope tRowsAt) := ⟨rfl, rfl, rfl, by decide +kernel, rfl, by decide +kernel, by decide +kernel⟩
theorem ok_rows_at {f : Addr} {fd : FuncData} (D : Raw K mg "rows_at" tRowsAt f fd) (T : Tx K mg CBoard CNumberedLine CStrokes CNews CPart CPlainLine CHall) : Ok P w K mg base 1 "rows_at" ["numbers", "place", "count"] (spRowsAt K) f fd := by
  refine ⟨D.fn.ok scRowsAt (fun vs H Q E h => ?_) (fun cdv A outer s H vs Q E hr h => ⟨_,
    (pss_cons (ps_set (i := 3) scRowsAt.nd rfl (Or.inl rfl) (pe_lst pa_nil))
      (pss_cons (ps_while PassesOwn.never (pt_cmpR on_lt (pe_callB call_len_seq (by rfl) T.b_len PySem.boot_len (pa_cons (pv 3) pa_nil)) (pv 2) (nomark _)) (pss_cons (ps_set (i := 4) scRowsAt.nd rfl (Or.inl rfl) (pe_op on_add (pv 1) pe_n))
      (pss_cons (ps_set (i := 1) scRowsAt.nd rfl (Or.inl rfl) (pe_op on_add (pv 4) (pe_ix ix_list (pv 0) (pv 1) (fun _ _ => rfl))))
      (pss_one (ps_expr (pe_bm PySem.F.plainAttrs_list PySem.F.slot_list_append PySem.F.type_list_append mt_append (pv 3) (pa_cons (pe_slice sl_list (pv 0) (po_some (pv 4)) (po_some (pv 1))) pa_nil)))))))
      (pss_one (ps_ret (pe_tup (pa_cons (pv 3) (pa_cons (pv 1) pa_nil))))))), ?_⟩), D.at_, D.fn.kp, D.fn.binds fun _ _ _ _ _ _ us hl => match us, hl with | [_, _, _], _ => rfl⟩
  · obtain ⟨a, ns, p, k, q, rows, rfl, _⟩ := h
    rfl
  · obtain ⟨a, ns, p, cnt, q, rows, rfl, hS, hc, hrow, kQ⟩ := h
    refine q_asgL (el_lst ea_nil few) fun l H1 hl e1 h1 => ?_
    refine q_while (fun m σ H' => ∃ (pj : Nat) (as : List Addr) (done rest : List (List Nat)) (v : Option V), σ = [some (.ref a), some (vn pj), some (vn cnt), some (.ref l), v] ∧ Evl.Ex H H' ∧ H' l = some (.lst (refs as)) ∧ RowsAt H' as done ∧
      (∀ a ∈ as, H a = none ∧ a ≠ l) ∧ rowsFrom ns (cnt - done.length) pj = some (rest, q) ∧ done ++ rest = rows ∧ done.length ≤ cnt ∧ m = cnt - done.length) cnt
      ⟨p, [], [], rows, none, rfl, e1, h1, trivial, fun b hb => (by cases hb), hrow, rfl, Nat.zero_le _, rfl⟩ ?_
    rintro m σ' H' ⟨pj, as, done, rest, v, rfl, e2, h2, hR, hF, hrow', hd, hle, rfl⟩
    have hlen : (refs as).length = done.length := by
      unfold refs
      rw [List.length_map, hR.length]
    refine ⟨decide (done.length < cnt), etN (g := fun n m => decide (n < m)) (ev_is (ev_len (ev_var rfl) (sq_of h2)) (by rw [hlen])) (ev_var rfl) trivial, fun hb H3 e3 => ?_, fun hb H3 e3 => ?_⟩
    · have lt : done.length < cnt := of_decide_eq_true hb
      obtain ⟨j, hj⟩ : ∃ j, cnt - done.length = j + 1 := ⟨cnt - done.length - 1, by omega⟩
      rw [hj] at hrow'
      unfold rowsFrom at hrow'
      cases hm : ns[pj]? with
      | none =>
        rw [hm] at hrow'
        cases hrow'
      | some m =>
        rw [hm] at hrow'
        dsimp only at hrow'
        by_cases hle2 : pj + 1 + m ≤ ns.length
        · rw [if_pos hle2] at hrow'
          cases hz : rowsFrom ns j (pj + 1 + m) with
          | none =>
            rw [hz] at hrow'
            cases hrow'
          | some z =>
            rw [hz] at hrow'
            have hrow2 := Option.some.inj hrow'
            have er : rest = (ns.drop (pj + 1)).take m :: z.1 := (congrArg Prod.fst hrow2).symm
            have eq : q = z.2 := (congrArg Prod.snd hrow2).symm
            refine ⟨_, fun σ2 H2 h => h, ?_⟩
            refine q_asg (evN (ev_var rfl) ev_n trivial) fun H4 e4 => ?_
            have hS4 : SqL K H4 a (vns ns) := ex_l ((e2.trans e3).trans e4) hS
            refine q_asg (evN (ev_var rfl) (ev_op (ev_var rfl) (ev_var rfl) (rv_ixL hS4 (atI_vns hm))) trivial) fun H5 e5 => ?_
            have h5 : H5 l = some (.lst (refs as)) := e5 _ _ (e4 _ _ (e3 _ _ h2))
            have hS5 : SqL K H5 a (vns ns) := ex_l e5 hS4
            refine s_appL h5 (ev_var rfl) (el_sl (ev_var rfl) (eo_some (ev_var rfl)) (eo_some (ev_var rfl)) hS5) (by rw [hlen]; omega) fun r H6 hr6 e6 h6 => ?_
            have eR : cutV (vns ns) (some ((pj + 1 : Nat) : Int)) (some ((pj + 1 + m : Nat) : Int)) = vns ((ns.drop (pj + 1)).take m) := by
              rw [cut_nn, vns_drop, vns_take]
              congr 2
              omega
            have eE : Evl.Ex H' H6 := ((e3.trans e4).trans e5).trans e6
            have lr : r ≠ l := by
              rintro rfl
              rw [h5] at hr6
              cases hr6
            have r0 : H r = none := fresh_back (((e2.trans e3).trans e4).trans e5) hr6
            refine ⟨cnt - (done.length + 1), by omega, pj + 1 + m, as ++ [r], done ++ [(ns.drop (pj + 1)).take m], z.1, some (vn (pj + 1)), rfl, ?_, ?_, ?_, ?_, ?_, ?_, ?_, ?_⟩
            · exact ((e2.trans eE).mut hl)
            · unfold refs
              rw [List.map_append]
              exact upd_same
            · refine RowsAt.upd ((hR.ex eE).snoc (h6.trans (by rw [← eR]))) fun xs hx z => ?_
              rcases List.mem_append.mp z with z | z
              · exact (hF _ z).2 rfl
              · rw [List.mem_singleton] at z
                exact lr z.symm
            · intro b hb
              rcases List.mem_append.mp hb with z | z
              · exact hF b z
              · rw [List.mem_singleton] at z
                subst z
                exact ⟨r0, lr⟩
            · rw [List.length_append, List.length_singleton]
              have e : cnt - (done.length + 1) = j := by omega
              rw [e, eq]
              exact hz
            · rw [List.append_assoc, ← hd, er]
              rfl
            · rw [List.length_append, List.length_singleton]
              omega
            · rw [List.length_append, List.length_singleton]
        · rw [if_neg hle2] at hrow'
          cases hrow'
    · have eq : cnt - done.length = 0 := by
        have := of_decide_eq_false hb
        omega
      rw [eq] at hrow'
      have hrow2 : some (([] : List (List Nat)), pj) = some (rest, q) := hrow'
      have hz := Option.some.inj hrow2
      have er : rest = [] := (congrArg Prod.fst hz).symm
      have eq2 : pj = q := congrArg Prod.snd hz
      subst eq2
      rw [er, List.append_nil] at hd
      subst hd
      refine s_retU (eu_tup (ea_cons (ev_var rfl) (ea_cons (ev_var rfl) ea_nil)) few) fun t H4 ht e4 h4 => ?_
      exact kQ H4 t l as ((e2.trans e3).trans e4) h4 (e4 _ _ (e3 _ _ h2)) (hR.ex (e3.trans e4)) fun a ha => (hF a ha).1
end
end Kx

-- KBoard
namespace Kx
open PySem PySem.Spec PyProof.Rows L2 Evl

/-! ### what makes a keyboard, as the program asks it -/
def difN (l : List Nat) : Bool := decide l.Nodup
def labelsFit (left middle bar : Nat) (labels : List Nat) : Bool :=
  !(bar != 0 && !decide (labels.getD 0 0 = 35)) && ((labels.drop bar).all isLab &&
    (!(((labels.drop left).take middle).any fun x => decide (x ∈ labels.take left) || decide (x ∈ labels.drop (left + middle))) &&
      (difN (labels.take left) && (difN ((labels.drop left).take middle) && difN (labels.drop (left + middle))))))
def digitsFit (bar : Nat) (digits : List Nat) : Bool :=
  let given := digits.filter fun d => !decide (d = 0)
  if bar = 0 then given.isEmpty else decide (digits.getD 0 0 = 0) && (given.all isDig && difN given)
def isKb (left middle bar : Nat) (labels digits : List Nat) : Bool :=
  !(!decide (labels.length = digits.length) || decide (1 < bar)) && (!(!(decide (1 ≤ labels.length) && decide (labels.length ≤ 48)) || decide (labels.length < left + middle)) &&
    (!(bar != 0 && decide (left = 0)) && (labelsFit left middle bar labels && digitsFit bar digits)))

section
variable {P : Program} {w : World} {K : PySem.W.Frag} {mg : Str → Option Value} {base : Heap} {CBoard CNumberedLine CStrokes CNews CPart CPlainLine CHall : Addr}
/-! ### all_differ -/
def spAllDiffer (K : PySem.W.Frag) : Sp := spV fun vs H v => ∃ (a : Addr) (l : List Nat), vs = [.ref a] ∧ SqL K H a (vns l) ∧ l.length ≤ 4000 ∧ v = .bl (difN l)
theorem scAllDiffer : FnScope ["row"] ["row"] (defScope tAllDiffer) := ⟨rfl, rfl, rfl, by decide +kernel, rfl, by decide +kernel, by decide +kernel⟩
theorem ok_all_differ {f : Addr} {fd : FuncData} (D : Raw K mg "all_differ" tAllDiffer f fd) (T : Tx K mg CBoard CNumberedLine CStrokes CNews CPart CPlainLine CHall) : Ok P w K mg base 1 "all_differ" ["row"] (spAllDiffer K) f fd := by
  refine ⟨D.fn.ok scAllDiffer (fun vs H Q E h => ?_) (fun cdv A outer s H vs Q E hr h => ⟨_,
    (pss_one (ps_ret (pe_cmpR on_eq (pe_lenSetG (by rfl) T.b_len (by rfl) T.b_set (pv 0)) (pe_callB call_len_seq (by rfl) T.b_len PySem.boot_len (pa_cons (pv 0) pa_nil)) (nomark _)))), ?_⟩), D.at_, D.fn.kp, D.fn.binds fun _ _ _ _ _ _ us hl => match us, hl with | [_], _ => rfl⟩
  · obtain ⟨v, ⟨a, l, rfl, _⟩, k⟩ := h
    rfl
  · obtain ⟨v, ⟨a, l, rfl, hS, hl, rfl⟩, k⟩ := h
    refine s_ret (evN (n := dcount (l.map fun n : Nat => (n : Int))) (m := l.length) (ev_lenSet (ev_var rfl) hS hl) (ev_is (ev_len (ev_var rfl) hS) (by rw [vns_length])) trivial) fun H1 e => ?_
    have d : decide (dcount (l.map fun n : Nat => (n : Int)) = l.length) = difN l := by
      unfold difN
      refine dec_eq ?_
      have := dcount_nodup (l.map fun n : Nat => (n : Int))
      rw [List.length_map, nodup_ints] at this
      exact this
    rw [d]
    exact k H1 e

/-! ### labels_fit -/
def spLabelsFit (K : PySem.W.Frag) : Sp := spV fun vs H v => ∃ (a : Addr) (left middle bar : Nat) (labels : List Nat), vs = [vn left, vn middle, vn bar, .ref a] ∧ SqL K H a (vns labels) ∧ 1 ≤ labels.length ∧ labels.length ≤ 48 ∧ v = .bl (labelsFit left middle bar labels)
theorem scLabelsFit : FnScope ["left", "middle", "bar", "labels", "left_bank", "middle_bank", "right_bank", "label"] ["left", "middle", "bar", "labels"] (defScope tLabelsFit) := ⟨rfl, rfl, rfl, by decide +kernel, rfl, by decide +kernel, by decide +kernel⟩
theorem ok_labels_fit {f f1 f2 : Addr} {fd fd1 fd2 : FuncData} (D : Raw K mg "labels_fit" tLabelsFit f fd) (T : Tx K mg CBoard CNumberedLine CStrokes CNews CPart CPlainLine CHall)
    (G_is_label : Ok P w K mg base 2 "is_label" ["character"] spIsLabel f1 fd1) (G_all_differ : Ok P w K mg base 1 "all_differ" ["row"] (spAllDiffer K) f2 fd2) : Ok P w K mg base 4 "labels_fit" ["left", "middle", "bar", "labels"] (spLabelsFit K) f fd := by
  refine ⟨D.fn.ok scLabelsFit (fun vs H Q E h => ?_) (fun cdv A outer s H vs Q E hr h => ⟨_,
    (pss_cons (ps_if (PW.pt (pw_and (pt_truth (pv 2) (by intro _; rfl)) (pw_and1 (pt_cmpR on_ne (pe_ix ix_list (pv 3) pe_n (fun _ _ => rfl)) (pe_gi T.g_BAR_SIGN) (nomark _))))) (pss_one (ps_ret pe_bl)) pss_nil)
      (pss_cons (ps_if (pt_not (pt_val (pe_callB (cr_all rfl) (by rfl) T.b_all (by decide +kernel) (pa_cons (pe_lc (own := [("label", 7)]) (g := gName 7) (by rfl) scLabelsFit.nd (pi_list (pe_slice sl_list (pv 3) (po_some (pv 2)) po_none)) (blkOk_by (own := [("label", 7)]) (N := ["left", "middle", "bar", "labels", "left_bank", "middle_bank", "right_bank", "label"]) (sc := defScope tLabelsFit) (by decide +kernel)) (fun _ _ _ _ _ => (pg_name (i := 7) scLabelsFit.nd rfl (Or.inl rfl))) (fun _ _ _ _ _ => pts_nil) (fun _ _ _ _ _ => (pe_own G_is_label hr (pa_cons (pv 7) pa_nil)))) pa_nil)))) (pss_one (ps_ret pe_bl)) pss_nil)
      (pss_cons (ps_set (i := 4) scLabelsFit.nd rfl (Or.inr rfl) (pe_slice sl_list (pv 3) po_none (po_some (pv 0))))
      (pss_cons (ps_set (i := 5) scLabelsFit.nd rfl (Or.inl rfl) (pe_slice sl_list (pv 3) (po_some (pv 0)) (po_some (pe_op on_add (pv 0) (pv 1)))))
      (pss_cons (ps_set (i := 6) scLabelsFit.nd rfl (Or.inr rfl) (pe_slice sl_list (pv 3) (po_some (pe_op on_add (pv 0) (pv 1))) po_none))
      (pss_cons (ps_if (pt_val (pe_callB (cr_any rfl) (by rfl) T.b_any (by decide +kernel) (pa_cons (pe_lc (own := [("label", 7)]) (g := gName 7) (by rfl) scLabelsFit.nd (pi_list (pv 5)) (blkOk_by (own := [("label", 7)]) (N := ["left", "middle", "bar", "labels", "left_bank", "middle_bank", "right_bank", "label"]) (sc := defScope tLabelsFit) (by decide +kernel)) (fun _ _ _ _ _ => (pg_name (i := 7) scLabelsFit.nd rfl (Or.inl rfl))) (fun _ _ _ _ _ => pts_nil) (fun _ _ _ _ _ => (pe_or (pe_cmpR (op_inK (K := K) rfl) (pv 7) (pv 4) (by rfl)) (pe_one (pe_cmpR (op_inK (K := K) rfl) (pv 7) (pv 6) (by rfl)))))) pa_nil))) (pss_one (ps_ret pe_bl)) pss_nil)
      (pss_one (ps_ret (pe_and (pe_own G_all_differ hr (pa_cons (pv 4) pa_nil)) (pe_and (pe_own G_all_differ hr (pa_cons (pv 5) pa_nil)) (pe_one (pe_own G_all_differ hr (pa_cons (pv 6) pa_nil))))))))))))), ?_⟩), D.at_, D.fn.kp, D.fn.binds fun _ _ _ _ _ _ us hl => match us, hl with | [_, _, _, _], _ => rfl⟩
  · obtain ⟨v, ⟨a, left, middle, bar, labels, rfl, _⟩, k⟩ := h
    rfl
  · obtain ⟨v, ⟨a, left, middle, bar, labels, rfl, hS, h1, h48, rfl⟩, k⟩ := h
    have h0 : labels[0]? = some (labels.getD 0 0) := by
      rw [List.getD_eq_getElem?_getD, List.getElem?_eq_getElem (by omega)]
      rfl
    refine q_when (et_and (et_truN (ev_var rfl)) fun _ => etN (ev_ixN (ev_var rfl) ev_n hS h0) ev_c trivial) (fun b1 H1 e1 => s_ret ev_c fun H2 e2 => ?_) (fun b1 H1 e1 => ?_)
    · have : labelsFit left middle bar labels = false := by
        unfold labelsFit
        rw [b1]
        rfl
      rw [this] at k
      exact k H2 (e1.trans e2)
    have hS1 := ex_l e1 hS
    have lab : ∀ (σ : L2.St) (H' : Hp) (n : Nat) {sp : Pos}, σ[7]? = some (some (vn n)) → Ev (tCall spIsLabel [] E0 (tCons (tVar 7) tNil)) σ H' (.bl (isLab n)) := fun σ H' n _ hv => ev_call (ea_cons (ev_var hv) ea_nil) (spV_is fun _ _ => ⟨n, rfl, rfl⟩)
    refine q_when (et_not (et_B (ev_all (el_boolsN isLab (el_from (ev_var rfl) (ev_var rfl) hS1) (by rw [List.length_drop]; omega) (fun _ => rfl) fun n _ H2 _ => lab _ _ n (sp := ⟨0, 0, 0, 0⟩) rfl)))) (fun b2 H2 e2 => s_ret ev_c fun H3 e3 => ?_) (fun b2 H2 e2 => ?_)
    · have : labelsFit left middle bar labels = false := by
        unfold labelsFit
        rw [all_bl] at b2
        have b2' : (labels.drop bar).all isLab = false := by simpa using b2
        rw [b1, b2']
        rfl
      rw [this] at k
      exact k H3 ((e1.trans e2).trans e3)
    rw [all_bl] at b2
    have b2' : (labels.drop bar).all isLab = true := by simpa using b2
    have hS2 := ex_l e2 hS1
    refine q_asgL (el_to (ev_var rfl) (ev_var rfl) hS2) fun p1 H3 _ e3 hp1 => ?_
    refine q_asgL (el_part (ev_var rfl) (ev_var rfl) (evN (ev_var rfl) (ev_var rfl) trivial) (ex_l e3 hS2)) fun p2 H4 _ e4 hp2 => ?_
    refine q_asgL (el_from (ev_var rfl) (evN (ev_var rfl) (ev_var rfl) trivial) (ex_l (e3.trans e4) hS2)) fun p3 H5 _ e5 hp3 => ?_
    have s1 : SqL K H5 p1 (vns (labels.take left)) := sq_of (e5 _ _ (e4 _ _ hp1))
    have s2 : SqL K H5 p2 (vns ((labels.drop left).take (left + middle - left))) := sq_of (e5 _ _ hp2)
    have s3 : SqL K H5 p3 (vns (labels.drop (left + middle))) := sq_of hp3
    rw [show left + middle - left = middle by omega] at s2
    have n1 : (labels.take left).length ≤ 48 := by rw [List.length_take]; omega
    have n2 : ((labels.drop left).take middle).length ≤ 48 := by rw [List.length_take, List.length_drop]; omega
    have n3 : (labels.drop (left + middle)).length ≤ 48 := by rw [List.length_drop]; omega
    refine q_when (et_B (ev_any (el_bools (fun x => decide (x ∈ labels.take left) || decide (x ∈ labels.drop (left + middle))) (ev_var rfl) s2 (by omega) (fun _ => rfl) fun n _ H6 e6 =>
      ev_orV (ev_is (ev_op (ev_var rfl) (ev_var rfl) (rv_isL (x := vn n) (ex_l e6 s1) rfl (flat_vns _))) (by rw [inV_vns])) fun _ => ev_is (ev_op (ev_var rfl) (ev_var rfl) (rv_isL (x := vn n) (ex_l e6 s3) rfl (flat_vns _))) (by rw [inV_vns])))) (fun b3 H6 e6 => s_ret ev_c fun H7 e7 => ?_) (fun b3 H6 e6 => ?_)
    · have : labelsFit left middle bar labels = false := by
        unfold labelsFit
        rw [any_bl] at b3
        rw [b1, b2', b3]
        rfl
      rw [this] at k
      exact k H7 ((((((e1.trans e2).trans e3).trans e4).trans e5).trans e6).trans e7)
    rw [any_bl] at b3
    refine s_ret (ev_andV (ev_call (ea_cons (ev_var rfl) ea_nil) (spV_is fun H' e' => ⟨p1, _, rfl, ex_l e' (ex_l e6 s1), by omega, rfl⟩)) fun _ => ev_andV (ev_call (ea_cons (ev_var rfl) ea_nil) (spV_is fun H' e' => ⟨p2, _, rfl, ex_l e' (ex_l e6 s2), by omega, rfl⟩)) fun _ => ev_call (ea_cons (ev_var rfl) ea_nil) (spV_is fun H' e' => ⟨p3, _, rfl, ex_l e' (ex_l e6 s3), by omega, rfl⟩)) fun H7 e7 => ?_
    have : labelsFit left middle bar labels = (difN (labels.take left) && (difN ((labels.drop left).take middle) && difN (labels.drop (left + middle)))) := by
      unfold labelsFit
      rw [b1, b2', b3]
      rfl
    rw [this] at k
    exact k H7 ((((((e1.trans e2).trans e3).trans e4).trans e5).trans e6).trans e7)

/-! ### digits_fit -/
def spDigitsFit (K : PySem.W.Frag) : Sp := spV fun vs H v => ∃ (a : Addr) (bar : Nat) (digits : List Nat), vs = [vn bar, .ref a] ∧ SqL K H a (vns digits) ∧ 1 ≤ digits.length ∧ digits.length ≤ 48 ∧ v = .bl (digitsFit bar digits)
theorem scDigitsFit : FnScope ["bar", "digits", "given", "digit"] ["bar", "digits"] (defScope tDigitsFit) := ⟨rfl, rfl, rfl, by decide +kernel, rfl, by decide +kernel, by decide +kernel⟩
/-- a list against [] -/
theorem ev_eqNil {K : PySem.W.Frag} {σ : L2.St} {H : Hp} {ta : TE} {a : Addr} {xs : List V} {ds : List PyData} (ha : Ev ta σ H (.ref a)) (h : SqL K H a xs) (hd : ∀ H', Evl.Ex H H' → DpAll K H' xs ds) (hs : SeqAt.shaped (.list ds) = true) :
    Ev (tOp (rEqD K) ta (tLst tNil)) σ H (.bl ds.isEmpty) := ev_opL ha (el_lst ea_nil few) fun p H1 hp e => rv_val fun H2 e2 Q q => ⟨.list ds, .list [], .lst (ex_l (e.trans e2) h) (hd _ (e.trans e2)), .lst (sq_of (e2 _ _ hp)) .nil, hs, rfl, by
  have r : PyData.eqv (.list ds) (.list []) = ds.isEmpty := by cases ds <;> rfl
  rw [r]
  exact q⟩
theorem ev_neNil {K : PySem.W.Frag} {σ : L2.St} {H : Hp} {ta : TE} {a : Addr} {xs : List V} {ds : List PyData} (ha : Ev ta σ H (.ref a)) (h : SqL K H a xs) (hd : ∀ H', Evl.Ex H H' → DpAll K H' xs ds) (hs : SeqAt.shaped (.list ds) = true) :
    Ev (tOp (rNeD K) ta (tLst tNil)) σ H (.bl (!ds.isEmpty)) := ev_opL ha (el_lst ea_nil few) fun p H1 hp e => rv_val fun H2 e2 Q q => ⟨.list ds, .list [], .lst (ex_l (e.trans e2) h) (hd _ (e.trans e2)), .lst (sq_of (e2 _ _ hp)) .nil, hs, rfl, by
  have r : PyData.eqv (.list ds) (.list []) = ds.isEmpty := by cases ds <;> rfl
  rw [r]
  exact q⟩
def dInts (l : List Nat) : List PyData := l.map fun n : Nat => PyData.int (n : Int)
theorem dpAll_vns {K : PySem.W.Frag} {H : Hp} : ∀ l : List Nat, DpAll K H (vns l) (dInts l)
  | [] => .nil
  | n :: r => .cons (.int n) (dpAll_vns r)
theorem shaped_ints (l : List Nat) : SeqAt.shaped (.list (dInts l)) = true := by
  have h1 : ∀ l : List Nat, PyData.canLayAll0 (dInts l) = true ∧ PyData.depthAll (dInts l) = 0 := by
    intro l
    induction l with
    | nil => exact ⟨rfl, rfl⟩
    | cons n r ih =>
      refine ⟨?_, ?_⟩
      · show (true && PyData.canLayAll0 (dInts r)) = true
        rw [ih.1]
        rfl
      · show max 0 (PyData.depthAll (dInts r)) = 0
        rw [ih.2]
        rfl
  obtain ⟨a, b⟩ := h1 l
  show (PyData.canLayAll0 (dInts l) && decide (PyData.depthAll (dInts l) + 1 ≤ 64)) = true
  rw [a, b]
  rfl
theorem ok_digits_fit {f f1 f2 : Addr} {fd fd1 fd2 : FuncData} (D : Raw K mg "digits_fit" tDigitsFit f fd) (T : Tx K mg CBoard CNumberedLine CStrokes CNews CPart CPlainLine CHall)
    (G_is_digit : Ok P w K mg base 1 "is_digit" ["character"] spIsDigit f1 fd1) (G_all_differ : Ok P w K mg base 1 "all_differ" ["row"] (spAllDiffer K) f2 fd2) : Ok P w K mg base 4 "digits_fit" ["bar", "digits"] (spDigitsFit K) f fd := by
  refine ⟨D.fn.ok scDigitsFit (fun vs H Q E h => ?_) (fun cdv A outer s H vs Q E hr h => ⟨_,
    (pss_cons (ps_setLc (i := 2) (own := [("digit", 3)]) (g := gName 3) (by rfl) scDigitsFit.nd rfl rfl (sw_true rfl rfl rfl (by decide +kernel)) (pi_list (pv 1)) (blkOk_by (own := [("digit", 3)]) (N := ["bar", "digits", "given", "digit"]) (sc := defScope tDigitsFit) (by decide +kernel)) (fun _ _ _ _ _ => (pg_name (i := 3) scDigitsFit.nd rfl (Or.inl rfl))) (fun _ _ _ _ _ => (pts_one (pt_cmpR on_ne (pv 3) pe_n (nomark _)))) (fun _ _ _ _ _ => (pv 3)))
      (pss_cons (ps_if (pt_not (pt_truth (pv 0) (by intro _; rfl))) (pss_one (ps_ret (pe_cmpR (op_eqD hr.units) (pv 2) (pe_lst pa_nil) (nomark _)))) pss_nil)
      (pss_one (ps_ret (pe_and (pe_cmpR on_eq (pe_ix ix_list (pv 1) pe_n (fun _ _ => rfl)) pe_n (nomark _)) (pe_and (pe_callB (cr_all rfl) (by rfl) T.b_all (by decide +kernel) (pa_cons (pe_lc (own := [("digit", 3)]) (g := gName 3) (by rfl) scDigitsFit.nd (pi_list (pv 2)) (blkOk_by (own := [("digit", 3)]) (N := ["bar", "digits", "given", "digit"]) (sc := defScope tDigitsFit) (by decide +kernel)) (fun _ _ _ _ _ => (pg_name (i := 3) scDigitsFit.nd rfl (Or.inl rfl))) (fun _ _ _ _ _ => pts_nil) (fun _ _ _ _ _ => (pe_own G_is_digit hr (pa_cons (pv 3) pa_nil)))) pa_nil)) (pe_one (pe_own G_all_differ hr (pa_cons (pv 2) pa_nil))))))))), ?_⟩), D.at_, D.fn.kp, D.fn.binds fun _ _ _ _ _ _ us hl => match us, hl with | [_, _], _ => rfl⟩
  · obtain ⟨v, ⟨a, bar, digits, rfl, _⟩, k⟩ := h
    rfl
  · obtain ⟨v, ⟨a, bar, digits, rfl, hS, h1, h48, rfl⟩, k⟩ := h
    have h0 : digits[0]? = some (digits.getD 0 0) := by
      rw [List.getD_eq_getElem?_getD, List.getElem?_eq_getElem (by omega)]
      rfl
    refine q_asgL (el_lcN (fun d => !decide (d = 0)) vn (ev_var rfl) hS (by omega) (fun _ => rfl) (fun n _ H1 _ => etN (g := fun n m => !decide (n = m)) (ev_var rfl) ev_n trivial) fun n _ H1 _ _ => ev_var rfl) fun p H1 _ e1 hp => ?_
    have hg : SqL K H1 p (vns (digits.filter fun d => !decide (d = 0))) := sq_of hp
    have lg : (digits.filter fun d => !decide (d = 0)).length ≤ 48 := Nat.le_trans (List.length_filter_le _ _) h48
    refine q_when (et_not (et_truN (ev_var rfl))) (fun b1 H2 e2 => s_ret (ev_eqNil (ev_var rfl) (ex_l e2 hg) (fun H' _ => dpAll_vns _) (shaped_ints _)) fun H3 e3 => ?_) (fun b1 H2 e2 => ?_)
    · have hb : bar = 0 := by simpa using b1
      have : digitsFit bar digits = (dInts (digits.filter fun d => !decide (d = 0))).isEmpty := by
        unfold digitsFit
        dsimp only
        rw [if_pos hb]
        unfold dInts
        cases digits.filter fun d => !decide (d = 0) <;> rfl
      rw [this] at k
      exact k H3 ((e1.trans e2).trans e3)
    · have hb : ¬ bar = 0 := by simpa using b1
      refine s_ret (ev_andV (evN (n := digits.getD 0 0) (m := 0) (ev_ixN (ev_var rfl) ev_n (ex_l (e1.trans e2) hS) h0) ev_n trivial) fun _ => ev_andV (ev_all (el_bools isDig (ev_var rfl) (ex_l e2 hg) (by omega) (fun _ => rfl) fun n _ H3 _ => ev_call (ea_cons (ev_var rfl) ea_nil) (spV_is fun _ _ => ⟨n, rfl, rfl⟩))) fun _ =>
        ev_call (ea_cons (ev_var rfl) ea_nil) (spV_is fun H' e' => ⟨p, _, rfl, ex_l e' (ex_l e2 hg), by omega, rfl⟩)) fun H3 e3 => ?_
      rw [all_bl]
      have : digitsFit bar digits = (decide (digits.getD 0 0 = 0) && ((digits.filter fun d => !decide (d = 0)).all isDig && difN (digits.filter fun d => !decide (d = 0)))) := by
        unfold digitsFit
        dsimp only
        rw [if_neg hb]
      rw [this] at k
      exact k H3 ((e1.trans e2).trans e3)
end
end Kx

-- KBoard2
namespace Kx
open PySem PySem.Spec PyProof.Rows L2 Evl
section
variable {P : Program} {w : World} {K : PySem.W.Frag} {mg : Str → Option Value} {base : Heap} {CBoard CNumberedLine CStrokes CNews CPart CPlainLine CHall : Addr}
/-! ### is_keyboard -/
def spIsKeyboard (K : PySem.W.Frag) : Sp := spV fun vs H v => ∃ (a b : Addr) (left middle bar : Nat) (labels digits : List Nat), vs = [vn left, vn middle, vn bar, .ref a, .ref b] ∧ SqL K H a (vns labels) ∧ SqL K H b (vns digits) ∧ v = .bl (isKb left middle bar labels digits)
theorem scIsKeyboard : FnScope ["left", "middle", "bar", "labels", "digits"] ["left", "middle", "bar", "labels", "digits"] (defScope tIsKeyboard) := ⟨rfl, rfl, rfl, by decide +kernel, rfl, by decide +kernel, by decide +kernel⟩
theorem ev_lenN' {K : PySem.W.Frag} {σ : L2.St} {H : Hp} {ta : TE} {p : Addr} {l : List Nat} (ha : Ev ta σ H (.ref p)) (h : SqL K H p (vns l)) : Ev (tCB (rLenS K) (tCons ta tNil)) σ H (vn l.length) := ev_is (ev_len ha h) (by rw [vns_length])
theorem ok_is_keyboard {f f1 f2 : Addr} {fd fd1 fd2 : FuncData} (D : Raw K mg "is_keyboard" tIsKeyboard f fd) (T : Tx K mg CBoard CNumberedLine CStrokes CNews CPart CPlainLine CHall)
    (G_labels_fit : Ok P w K mg base 4 "labels_fit" ["left", "middle", "bar", "labels"] (spLabelsFit K) f1 fd1) (G_digits_fit : Ok P w K mg base 4 "digits_fit" ["bar", "digits"] (spDigitsFit K) f2 fd2) :
    Ok P w K mg base 5 "is_keyboard" ["left", "middle", "bar", "labels", "digits"] (spIsKeyboard K) f fd := by
  refine ⟨D.fn.ok scIsKeyboard (fun vs H Q E h => ?_) (fun cdv A outer s H vs Q E hr h => ⟨_,
    (pss_cons (ps_if (PW.pt (pw_or (pt_cmpR on_ne (pe_callB call_len_seq (by rfl) T.b_len PySem.boot_len (pa_cons (pv 3) pa_nil)) (pe_callB call_len_seq (by rfl) T.b_len PySem.boot_len (pa_cons (pv 4) pa_nil)) (nomark _)) (pw_or1 (pt_cmpR on_gt (pv 2) pe_n (nomark _))))) (pss_one (ps_ret pe_bl)) pss_nil)
      (pss_cons (ps_if (PW.pt (pw_or (pt_not (pt_chain on_le on_le pe_n (pe_callB call_len_seq (by rfl) T.b_len PySem.boot_len (pa_cons (pv 3) pa_nil)) (pe_gi T.g_MOST_KEYS))) (pw_or1 (pt_cmpR on_gt (pe_op on_add (pv 0) (pv 1)) (pe_callB call_len_seq (by rfl) T.b_len PySem.boot_len (pa_cons (pv 3) pa_nil)) (nomark _))))) (pss_one (ps_ret pe_bl)) pss_nil)
      (pss_cons (ps_if (PW.pt (pw_and (pt_truth (pv 2) (by intro _; rfl)) (pw_and1 (pt_cmpR on_eq (pv 0) pe_n (nomark _))))) (pss_one (ps_ret pe_bl)) pss_nil)
      (pss_one (ps_ret (pe_and (pe_own G_labels_fit hr (pa_cons (pv 0) (pa_cons (pv 1) (pa_cons (pv 2) (pa_cons (pv 3) pa_nil))))) (pe_one (pe_own G_digits_fit hr (pa_cons (pv 2) (pa_cons (pv 4) pa_nil)))))))))), ?_⟩), D.at_, D.fn.kp, D.fn.binds fun _ _ _ _ _ _ us hl => match us, hl with | [_, _, _, _, _], _ => rfl⟩
  · obtain ⟨v, ⟨a, b, left, middle, bar, labels, digits, rfl, _⟩, k⟩ := h
    rfl
  · obtain ⟨v, ⟨a, b, left, middle, bar, labels, digits, rfl, hA, hB, rfl⟩, k⟩ := h
    refine q_when (et_or (etN (g := fun n m => !decide (n = m)) (ev_lenN' (ev_var rfl) hA) (ev_lenN' (ev_var rfl) hB) trivial) fun _ => etN (g := fun n m => decide (m < n)) (ev_var rfl) ev_n trivial) (fun b1 H1 e1 => s_ret ev_c fun H2 e2 => ?_) (fun b1 H1 e1 => ?_)
    · have : isKb left middle bar labels digits = false := by
        unfold isKb
        rw [b1]
        rfl
      rw [this] at k
      exact k H2 (e1.trans e2)
    refine q_when (et_or (et_not (et_test (ev_chain ev_n (ev_lenN' (ev_var rfl) (ex_l e1 hA)) ev_c))) fun _ => etN (g := fun n m => decide (m < n)) (evN (ev_var rfl) (ev_var rfl) trivial) (ev_lenN' (ev_var rfl) (ex_l e1 hA)) trivial) (fun b2 H2 e2 => s_ret ev_c fun H3 e3 => ?_) (fun b2 H2 e2 => ?_)
    · have : isKb left middle bar labels digits = false := by
        unfold isKb
        rw [b1, b2]
        rfl
      rw [this] at k
      exact k H3 ((e1.trans e2).trans e3)
    refine q_when (et_and (et_truN (ev_var rfl)) fun _ => etN (g := fun n m => decide (n = m)) (ev_var rfl) ev_n trivial) (fun b3 H3 e3 => s_ret ev_c fun H4 e4 => ?_) (fun b3 H3 e3 => ?_)
    · have : isKb left middle bar labels digits = false := by
        unfold isKb
        rw [b1, b2, b3]
        rfl
      rw [this] at k
      exact k H4 (((e1.trans e2).trans e3).trans e4)
    have b1' := b1
    have b2' := b2
    rw [Bool.or_eq_false_iff, Bool.not_eq_false', decide_eq_true_eq] at b1'
    rw [Bool.or_eq_false_iff, Bool.not_eq_false', Bool.and_eq_true, decide_eq_true_eq, decide_eq_true_eq] at b2'
    have b2a := b2'.1
    have b1a := b1'.1
    have d1 : 1 ≤ digits.length := b1a ▸ b2a.1
    have d2 : digits.length ≤ 48 := b1a ▸ b2a.2
    have eA := (e1.trans e2).trans e3
    refine s_ret (ev_andV (ev_call (ea_cons (ev_var rfl) (ea_cons (ev_var rfl) (ea_cons (ev_var rfl) (ea_cons (ev_var rfl) ea_nil)))) (spV_is fun H' e' => ⟨a, left, middle, bar, labels, rfl, ex_l e' (ex_l eA hA), b2a.1, b2a.2, rfl⟩)) fun _ =>
      ev_call (ea_cons (ev_var rfl) (ea_cons (ev_var rfl) ea_nil)) (spV_is fun H' e' => ⟨b, bar, digits, rfl, ex_l e' (ex_l eA hB), d1, d2, rfl⟩)) fun H4 e4 => ?_
    have : isKb left middle bar labels digits = (labelsFit left middle bar labels && digitsFit bar digits) := by
      unfold isKb
      rw [b1, b2, b3]
      rfl
    rw [this] at k
    exact k H4 (eA.trans e4)

/-! ### Board: how it lies in the heap -/
abbrev Kb := CdKeys.Keyboard
def bLabels (k : Kb) : List Nat := k.keys.map fun x => x.label
def bDigits (k : Kb) : List Nat := k.keys.map fun x => x.digit.getD 0
def bF (k : Kb) (lA dA : Addr) : List (Str × V) := [("size", vn k.size), ("middle_start", vn k.left), ("right_start", vn (k.left + k.middle)), ("has_bar", .bl k.bar), ("labels", .ref lA), ("digits", .ref dA)]
structure BoardAt (CB : Addr) (H : Hp) (a : Addr) (k : Kb) (dx lA dA : Addr) (as : List Addr) : Prop where
  ob : H a = some (.ins CB dx (bF k lA dA))
  ls : H lA = some (.lst (refs as))
  rows : RowsAt H as ((bLabels k).map u8n)
  ds : H dA = some (.lst (vns (bDigits k)))
  ok : k.ok = true
def IsBoard (CB : Addr) (H : Hp) (a : Addr) (k : Kb) : Prop := ∃ dx lA dA as, BoardAt CB H a k dx lA dA as
theorem BoardAt.ex {CB : Addr} {H H' : Hp} {a dx lA dA : Addr} {k : Kb} {as : List Addr} (e : Evl.Ex H H') (h : BoardAt CB H a k dx lA dA as) : BoardAt CB H' a k dx lA dA as := ⟨e _ _ h.ob, e _ _ h.ls, h.rows.ex e, e _ _ h.ds, h.ok⟩
theorem IsBoard.ex {CB : Addr} {H H' : Hp} {a : Addr} {k : Kb} (e : Evl.Ex H H') (h : IsBoard CB H a k) : IsBoard CB H' a k := by
  obtain ⟨dx, lA, dA, as, h⟩ := h
  exact ⟨dx, lA, dA, as, h.ex e⟩
theorem kb_ok {k : Kb} (h : k.ok = true) : 1 ≤ k.size ∧ k.size ≤ 48 ∧ k.left + k.middle ≤ k.size ∧ (k.bar = true → 0 < k.left) := by
  unfold CdKeys.Keyboard.ok at h
  rw [Bool.and_eq_true, Bool.and_eq_true, Bool.and_eq_true, Bool.and_eq_true, decide_eq_true_eq, decide_eq_true_eq, decide_eq_true_eq] at h
  refine ⟨h.1, h.2.1, h.2.2.1, fun hb => ?_⟩
  have := h.2.2.2.1
  rw [hb] at this
  simpa using this

/-! ### Board.owns, keys_of, is_bar -/
def spOwns (CB : Addr) : Sp := spV fun vs H v => ∃ (a : Addr) (k : Kb) (c : Nat), vs = [.ref a, vn c] ∧ IsBoard CB H a k ∧ v = .bl (k.has c)
theorem scBoardOwns : FnScope ["self", "chord"] ["self", "chord"] (defScope tBoardOwns) := ⟨rfl, rfl, rfl, by decide +kernel, rfl, by decide +kernel, by decide +kernel⟩
theorem ev_chainLt {σ : L2.St} {H : Hp} {ta tb tc : TE} {n m l : Nat} (ha : Ev ta σ H (vn n)) (hb : Ev tb σ H (vn m)) (hc : Ev tc σ H (vn l)) :
    Ev (tChain rLeN rLtN ta tb tc) σ H (.bl (decide (n ≤ m) && decide (m < l))) := fun H1 e Q q =>
  ha H1 e _ fun H2 e2 => hb H2 (e.trans e2) _ fun H3 e3 => ⟨n, m, rfl, rfl, trivial, decide (n ≤ m), rfl, by
    cases h : decide (n ≤ m) with
    | true =>
      rw [if_pos rfl]
      exact hc H3 ((e.trans e2).trans e3) _ fun H4 e4 => ⟨m, l, rfl, rfl, trivial, by
        rw [h] at q
        exact q H4 ((e2.trans e3).trans e4)⟩
    | false =>
      rw [if_neg Bool.false_ne_true]
      rw [h] at q
      exact q H3 (e2.trans e3)⟩
/-! ### is_chord -/
def spIsChord : Sp := spV fun vs H v => ∃ n size : Nat, vs = [vn n, vn size] ∧ size ≤ 48 ∧ v = .bl (decide (1 ≤ n) && decide (n < 2 ^ size))
theorem scIsChord : FnScope ["number", "size"] ["number", "size"] (defScope tIsChord) := ⟨rfl, rfl, rfl, by decide +kernel, rfl, by decide +kernel, by decide +kernel⟩
theorem ok_is_chord {f : Addr} {fd : FuncData} (D : Raw K mg "is_chord" tIsChord f fd) (T : Tx K mg CBoard CNumberedLine CStrokes CNews CPart CPlainLine CHall) : Ok P w K mg base 1 "is_chord" ["number", "size"] spIsChord f fd := by
  refine ⟨D.fn.ok scIsChord (fun vs H Q E h => ?_) (fun cdv A outer s H vs Q E hr h => ⟨_,
    (pss_one (ps_ret (pe_chain on_le on_lt pe_n (pv 0) (pe_op on_shl pe_n (pv 1))))), ?_⟩), D.at_, D.fn.kp, D.fn.binds fun _ _ _ _ _ _ us hl => match us, hl with | [_, _], _ => rfl⟩
  · obtain ⟨v, ⟨n, size, rfl, _⟩, _⟩ := h
    rfl
  · obtain ⟨v, ⟨n, size, rfl, hs, rfl⟩, kQ⟩ := h
    refine s_ret (ev_chainLt (n := 1) (m := n) ev_n (ev_var rfl) (evN (n := 1) (m := size) ev_n (ev_var rfl) ⟨by decide, by omega⟩)) fun H1 e1 => ?_
    rw [Nat.one_mul]
    exact kQ H1 e1
theorem ok_Board_owns {f f1 : Addr} {fd fd1 : FuncData} (D : RawM K CBoard "owns" "Board.owns" tBoardOwns f fd) (T : Tx K mg CBoard CNumberedLine CStrokes CNews CPart CPlainLine CHall) (G_is_chord : Ok P w K mg base 1 "is_chord" ["number", "size"] spIsChord f1 fd1) :
    OkM P w K mg base 2 CBoard "owns" ["self", "chord"] (spOwns CBoard) f fd := by
  refine ⟨D.fn.ok scBoardOwns (fun vs H Q E h => ?_) (fun cdv A outer s H vs Q E hr h => ⟨_,
    (pss_one (ps_ret (pe_own G_is_chord hr (pa_cons (pv 1) (pa_cons (pe_fld (pv 0) rfl) pa_nil))))), ?_⟩), D.at_, D.fn.binds fun _ _ _ _ _ _ us hl => match us, hl with | [_, _], _ => rfl⟩
  · obtain ⟨v, ⟨a, k, c, rfl, _⟩, _⟩ := h
    rfl
  · obtain ⟨v, ⟨a, k, c, rfl, ⟨dx, lA, dA, as, hB⟩, rfl⟩, kQ⟩ := h
    have hk := kb_ok hB.ok
    exact s_ret (ev_call (ea_cons (ev_var rfl) (ea_cons (ev_fld (ev_var rfl) hB.ob T.c_Board T.n_Board_size rfl) ea_nil)) (spV_is fun H' e' => ⟨c, k.size, rfl, by omega, rfl⟩)) fun H1 e1 => kQ H1 e1
def spKeysOf (CB : Addr) : Sp := spL fun vs H xs => ∃ (a : Addr) (k : Kb) (c : Nat), vs = [.ref a, vn c] ∧ IsBoard CB H a k ∧ xs = vns (k.keysOf c)
theorem scBoardKeysOf : FnScope ["self", "chord", "key"] ["self", "chord"] (defScope tBoardKeysOf) := ⟨rfl, rfl, rfl, by decide +kernel, rfl, by decide +kernel, by decide +kernel⟩
theorem ok_Board_keys_of {f : Addr} {fd : FuncData} (D : RawM K CBoard "keys_of" "Board.keys_of" tBoardKeysOf f fd) (T : Tx K mg CBoard CNumberedLine CStrokes CNews CPart CPlainLine CHall) : OkM P w K mg base 1 CBoard "keys_of" ["self", "chord"] (spKeysOf CBoard) f fd := by
  refine ⟨D.fn.ok scBoardKeysOf (fun vs H Q E h => ?_) (fun cdv A outer s H vs Q E hr h => ⟨_,
    (pss_one (ps_ret (pe_lc (own := [("key", 2)]) (g := gName 2) (by rfl) scBoardKeysOf.nd (pi_range1 (by rfl) T.b_range (pa_cons (pe_fld (pv 0) rfl) pa_nil)) (blkOk_by (own := [("key", 2)]) (N := ["self", "chord", "key"]) (sc := defScope tBoardKeysOf) (by decide +kernel)) (fun _ _ _ _ _ => (pg_name (i := 2) scBoardKeysOf.nd rfl (Or.inl rfl))) (fun _ _ _ _ _ => (pts_one (pt_truthK (K := K) rfl (pe_op on_and (pe_op on_shr (pv 1) (pv 2)) pe_n) (by intro _; rfl)))) (fun _ _ _ _ _ => (pv 2))))), ?_⟩), D.at_, D.fn.binds fun _ _ _ _ _ _ us hl => match us, hl with | [_, _], _ => rfl⟩
  · obtain ⟨v, ⟨a, k, c, rfl, _⟩, _⟩ := h
    rfl
  · obtain ⟨v, ⟨a, k, c, rfl, ⟨dx, lA, dA, as, hB⟩, rfl⟩, kQ⟩ := h
    have hk := kb_ok hB.ok
    refine s_retL (el_lcR1 (j := 2) (vs := [2]) (n := (k.size : Int)) (fun i => c.testBit i) vn (ea_cons (ev_fld (ev_var rfl) hB.ob T.c_Board T.n_Board_size rfl) ea_nil) (by omega) (fun _ => rfl) (fun i H1 _ _ => et_is (et_truN (evN (n := c / 2 ^ i) (m := 1) (evN (n := c) (m := i) (ev_var rfl) (ev_var rfl) trivial) ev_n trivial)) (bit_test c i)) fun i H1 _ _ _ => ev_var rfl) fun p H1 hp e1 h1 => ?_
    exact kQ p H1 hp e1 h1
def spIsBar (CB : Addr) : Sp := spV fun vs H v => ∃ (a : Addr) (k : Kb) (i : Nat), vs = [.ref a, vn i] ∧ IsBoard CB H a k ∧ v = .bl (k.bar && decide (i = 0))
theorem scBoardIsBar : FnScope ["self", "key"] ["self", "key"] (defScope tBoardIsBar) := ⟨rfl, rfl, rfl, by decide +kernel, rfl, by decide +kernel, by decide +kernel⟩
theorem ok_Board_is_bar {f : Addr} {fd : FuncData} (D : RawM K CBoard "is_bar" "Board.is_bar" tBoardIsBar f fd) (T : Tx K mg CBoard CNumberedLine CStrokes CNews CPart CPlainLine CHall) : OkM P w K mg base 1 CBoard "is_bar" ["self", "key"] (spIsBar CBoard) f fd := by
  refine ⟨D.fn.ok scBoardIsBar (fun vs H Q E h => ?_) (fun cdv A outer s H vs Q E hr h => ⟨_,
    (pss_one (ps_ret (pe_and (pe_fld (pv 0) rfl) (pe_one (pe_cmpR on_eq (pv 1) pe_n (nomark _)))))), ?_⟩), D.at_, D.fn.binds fun _ _ _ _ _ _ us hl => match us, hl with | [_, _], _ => rfl⟩
  · obtain ⟨v, ⟨a, k, c, rfl, _⟩, _⟩ := h
    rfl
  · obtain ⟨v, ⟨a, k, c, rfl, ⟨dx, lA, dA, as, hB⟩, rfl⟩, kQ⟩ := h
    exact s_ret (ev_andV (ev_fld (ev_var rfl) hB.ob T.c_Board T.n_Board_has_bar rfl) fun _ => evN (n := c) (m := 0) (ev_var rfl) ev_n trivial) fun H1 e1 => kQ H1 e1
end
end Kx

-- KHeap
/-! Objects that change: what stays, fields stored, methods that change what they're called on. -/
namespace Kx
open PySem PySem.Spec PyProof.Rows L2 Evl

/-- all that's known but what stands at S stays -/
def Fr (S : List Addr) (H H' : Hp) : Prop := ∀ b o, H b = some o → b ∉ S → H' b = some o
theorem Fr.refl (S : List Addr) (H : Hp) : Fr S H H := fun _ _ h _ => h
theorem Fr.of {S : List Addr} {H H' : Hp} (e : Evl.Ex H H') : Fr S H H' := fun b o h _ => e b o h
theorem Fr.ex {H H' : Hp} (e : Fr [] H H') : Evl.Ex H H' := fun b o h => e b o h (by simp)
theorem Fr.trans {S : List Addr} {H H1 H2 : Hp} (a : Fr S H H1) (b : Fr S H1 H2) : Fr S H H2 := fun c o h n => b c o (a c o h n) n
theorem Fr.mono {S T : List Addr} {H H1 : Hp} (a : Fr S H H1) (h : ∀ x ∈ S, x ∈ T) : Fr T H H1 := fun c o q n => a c o q fun z => n (h c z)
theorem Fr.upd {S : List Addr} {H : Hp} {a : Addr} {o : HO} (h : a ∈ S) : Fr S H (upd H a o) := fun b u e n => by
  rw [upd_ne]
  · exact e
  · rintro rfl
    exact n h
/-- an address that wasn't known may be written -/
theorem Fr.new {S : List Addr} {H : Hp} {a : Addr} {o : HO} (h : H a = none) : Fr S H (L2.upd H a o) := Fr.of (Evl.Ex.new h)
theorem Fr.put {S : List Addr} {H H1 : Hp} {a : Addr} {o : HO} (f : Fr S H H1) (h : H a = none) : Fr S H (L2.upd H1 a o) := fun b u e n => by
  rw [upd_ne (ne_of_none e h)]
  exact f b u e n
theorem Fr.at {S : List Addr} {H H' : Hp} {a : Addr} {o : HO} (f : Fr S H H') (h : H a = some o) (n : a ∉ S) : H' a = some o := f a o h n
theorem ne_ins {H : Hp} {a b C dx : Addr} {fs : List (Str × V)} {o : HO} (h : H a = some (.ins C dx fs)) (h' : H b = some o) (n : ∀ C dx fs, o ≠ .ins C dx fs) : a ≠ b := fun e => by
  subst e
  rw [h] at h'
  exact n _ _ _ (Option.some.inj h').symm
theorem ne_lst_ins {H : Hp} {a b C dx : Addr} {fs : List (Str × V)} {xs : List V} (h : H a = some (.lst xs)) (h' : H b = some (.ins C dx fs)) : a ≠ b := fun e => by
  subst e
  rw [h] at h'
  cases h'
theorem ne_tup_ins {H : Hp} {a b C dx : Addr} {fs : List (Str × V)} {xs : List V} (h : H a = some (.tup xs)) (h' : H b = some (.ins C dx fs)) : a ≠ b := fun e => by
  subst e
  rw [h] at h'
  cases h'
theorem ne_dk_ins {H : Hp} {a b C dx : Addr} {fs : List (Str × V)} {kvs : List (Key × V)} (h : H a = some (.dK kvs)) (h' : H b = some (.ins C dx fs)) : a ≠ b := fun e => by
  subst e
  rw [h] at h'
  cases h'

section
variable {K : PySem.W.Frag} {σ : L2.St} {H : Hp} {ta tv te tl : TE} {tt : TT} {t : TA} {x y z v : V} {a C dx : Addr} {fs : List (Str × V)} {f m : Str} {sp : Sp} {E : XK} {vs xs : List V} {D : Ends} {tz : TS}
/-! ### fields stored -/
theorem s_fld (hv : Ev tv σ H y) (ha : Ev ta σ H (.ref a)) (ho : H a = some (.ins C dx fs)) (hc : Cls K C) (hn : NoAttr K C f) (hl : fs.length < 1000) (k : ∀ H1, Evl.Ex H H1 → D.nx σ (upd H1 a (.ins C dx (putF f y fs)))) : sFld K ta tv f D σ H :=
  hv H (Evl.Ex.refl H) _ fun H1 e1 => ha H1 e1 _ fun H2 e2 => ⟨a, C, dx, fs, rfl, (e1.trans e2) _ _ ho, hc, hn, hl, k H2 (e1.trans e2)⟩
theorem q_fld (hv : Ev tv σ H y) (ha : Ev ta σ H (.ref a)) (ho : H a = some (.ins C dx fs)) (hc : Cls K C) (hn : NoAttr K C f) (hl : fs.length < 1000) (k : ∀ H1, Evl.Ex H H1 → tz D σ (upd H1 a (.ins C dx (putF f y fs)))) : tSeq (sFld K ta tv f) tz D σ H :=
  s_fld (D := { D with nx := tz D }) hv ha ho hc hn hl k
theorem s_fldL (hv : EvL tv σ H xs) (ha : ∀ H1, Evl.Ex H H1 → Ev ta σ H1 (.ref a)) (ho : H a = some (.ins C dx fs)) (hc : Cls K C) (hn : NoAttr K C f) (hl : fs.length < 1000) (k : ∀ p H1, H p = none → Evl.Ex H H1 → H1 p = some (.lst xs) → D.nx σ (upd H1 a (.ins C dx (putF f (.ref p) fs)))) : sFld K ta tv f D σ H :=
  hv H (Evl.Ex.refl H) _ fun p H1 hp e1 h1 => ha H1 e1 H1 (Evl.Ex.refl _) _ fun H2 e2 => ⟨a, C, dx, fs, rfl, (e1.trans e2) _ _ ho, hc, hn, hl, k p H2 hp (e1.trans e2) (e2 _ _ h1)⟩
theorem q_fldL (hv : EvL tv σ H xs) (ha : ∀ H1, Evl.Ex H H1 → Ev ta σ H1 (.ref a)) (ho : H a = some (.ins C dx fs)) (hc : Cls K C) (hn : NoAttr K C f) (hl : fs.length < 1000) (k : ∀ p H1, H p = none → Evl.Ex H H1 → H1 p = some (.lst xs) → tz D σ (upd H1 a (.ins C dx (putF f (.ref p) fs)))) : tSeq (sFld K ta tv f) tz D σ H :=
  s_fldL (D := { D with nx := tz D }) hv ha ho hc hn hl k
/-! ### a method that changes what it's called on: its promise is asked where the call stands -/
theorem s_callM (ha : Ev ta σ H (.ref a)) (ho : H a = some (.ins C dx fs)) (hm : fs.lookup m = none) (hv : ∀ H1, Evl.Ex H H1 → EvA t σ H1 vs) (k : ∀ H1, Evl.Ex H H1 → sp (.ref a :: (vs ++ [])) H1 (fun _ H2 => D.nx σ H2) E) : tDrop (tMeth C m sp [] E ta t) D σ H :=
  ha H (Evl.Ex.refl H) _ fun H1 e1 => ⟨a, dx, fs, rfl, e1 _ _ ho, hm, hv H1 e1 H1 (Evl.Ex.refl _) _ fun H2 e2 => k H2 (e1.trans e2)⟩
theorem q_callM (ha : Ev ta σ H (.ref a)) (ho : H a = some (.ins C dx fs)) (hm : fs.lookup m = none) (hv : ∀ H1, Evl.Ex H H1 → EvA t σ H1 vs) (k : ∀ H1, Evl.Ex H H1 → sp (.ref a :: (vs ++ [])) H1 (fun _ H2 => tz D σ H2) E) : tSeq (tDrop (tMeth C m sp [] E ta t)) tz D σ H :=
  s_callM (D := { D with nx := tz D }) ha ho hm hv k
/-- the same where its answer is used: what's wanted of the answer and of the heap then -/
theorem v_callM {Q : VK} (ha : Ev ta σ H (.ref a)) (ho : H a = some (.ins C dx fs)) (hm : fs.lookup m = none) (hv : ∀ H1, Evl.Ex H H1 → EvA t σ H1 vs) (k : ∀ H1, Evl.Ex H H1 → sp (.ref a :: (vs ++ [])) H1 Q E) : tMeth C m sp [] E ta t σ H Q :=
  ha H (Evl.Ex.refl H) _ fun H1 e1 => ⟨a, dx, fs, rfl, e1 _ _ ho, hm, hv H1 e1 H1 (Evl.Ex.refl _) _ fun H2 e2 => k H2 (e1.trans e2)⟩
theorem v_call {Q : VK} (hv : EvA t σ H vs) (k : ∀ H1, Evl.Ex H H1 → sp (vs ++ []) H1 Q E) : tCall sp [] E t σ H Q := hv H (Evl.Ex.refl H) _ fun H1 e1 => k H1 e1
/-! ### xs.extend(ys) -/
theorem s_extL {l : Addr} {ys : List V} (hl : H l = some (.lst xs)) (ha : Ev ta σ H (.ref l)) (h : EvL te σ H ys) (hz : xs.length + ys.length ≤ 100000) (k : ∀ H1, Evl.Ex H H1 → D.nx σ (upd H1 l (.lst (xs ++ ys)))) :
    tDrop (tBM K "list" rExtend ta (tCons te tNil)) D σ H := ha H (Evl.Ex.refl H) _ fun H1 e1 =>
  ⟨Or.inl ⟨rfl, xs, sq_of (e1 l _ hl)⟩, h H1 e1 _ fun p H2 hp e2 h2 => ⟨l, p, xs, ys, rfl, rfl, e2 l _ (e1 l _ hl), h2, sz_of hz, k H2 (e1.trans e2)⟩⟩
theorem q_extL {l : Addr} {ys : List V} (hl : H l = some (.lst xs)) (ha : Ev ta σ H (.ref l)) (h : EvL te σ H ys) (hz : xs.length + ys.length ≤ 100000) (k : ∀ H1, Evl.Ex H H1 → tz D σ (upd H1 l (.lst (xs ++ ys)))) :
    tSeq (tDrop (tBM K "list" rExtend ta (tCons te tNil))) tz D σ H := s_extL (D := { D with nx := tz D }) hl ha h hz k
theorem s_ext {l b : Addr} {ys : List V} (hl : H l = some (.lst xs)) (ha : Ev ta σ H (.ref l)) (h : Ev te σ H (.ref b)) (hb : H b = some (.lst ys)) (hz : xs.length + ys.length ≤ 100000) (k : ∀ H1, Evl.Ex H H1 → D.nx σ (upd H1 l (.lst (xs ++ ys)))) :
    tDrop (tBM K "list" rExtend ta (tCons te tNil)) D σ H := ha H (Evl.Ex.refl H) _ fun H1 e1 =>
  ⟨Or.inl ⟨rfl, xs, sq_of (e1 l _ hl)⟩, h H1 e1 _ fun H2 e2 => ⟨l, b, xs, ys, rfl, rfl, e2 l _ (e1 l _ hl), (e1.trans e2) _ _ hb, sz_of hz, k H2 (e1.trans e2)⟩⟩
theorem q_ext {l b : Addr} {ys : List V} (hl : H l = some (.lst xs)) (ha : Ev ta σ H (.ref l)) (h : Ev te σ H (.ref b)) (hb : H b = some (.lst ys)) (hz : xs.length + ys.length ≤ 100000) (k : ∀ H1, Evl.Ex H H1 → tz D σ (upd H1 l (.lst (xs ++ ys)))) :
    tSeq (tDrop (tBM K "list" rExtend ta (tCons te tNil))) tz D σ H := s_ext (D := { D with nx := tz D }) hl ha h hb hz k

/-! ### a new list of new lists -/
def EvLL (te : TE) (σ : L2.St) (H : Hp) (rows : List (List Nat)) : Prop := ∀ H1, Evl.Ex H H1 → ∀ Q : VK,
  (∀ p H2 as, H1 p = none → Evl.Ex H1 H2 → H2 p = some (.lst (refs as)) → RowsAt H2 as rows → (∀ b ∈ as, H1 b = none ∧ b ≠ p) → Q (.ref p) H2) → te σ H1 Q
theorem take_more {α : Type} : ∀ {l : List α} {i : Nat} {x : α}, l[i]? = some x → l.take (i + 1) = l.take i ++ [x]
  | [], i, x, h => by simp at h
  | a :: l, 0, x, h => by
    have e : a = x := Option.some.inj h
    subst e
    rfl
  | a :: l, i + 1, x, h => by
    have ih := take_more (l := l) (i := i) (x := x) h
    show a :: l.take (i + 1) = a :: l.take i ++ [x]
    rw [ih]
    rfl
theorem ell_lc {l : List Nat} {j : Nat} {vs : List Nat} (g : Nat → List Nat) (h : Ev tl σ H (.ref a)) (hx : SqL K H a (vns l)) (hz : l.length ≤ 40000) (hw : ∀ x, wipe ((wipe σ vs).set j (some x)) vs = wipe σ vs)
    (he : ∀ n ∈ l, ∀ H1, Evl.Ex H H1 → EvL te ((wipe σ vs).set j (some (vn n))) H1 (vns (g n))) : EvLL (tLc (iList K tl) (gName j) tYes te vs) σ H (l.map g) := fun H0 e0 Q q =>
  h H0 e0 _ fun H1 e1 => ⟨a, rfl, ⟨vns l, ex_l (e0.trans e1) hx⟩, fun Dl hD =>
    lc_list (xs := vns l) (fun i H' => ∃ as, Evl.Ex H1 H' ∧ H' Dl = some (.lst (refs as)) ∧ RowsAt H' as ((l.take i).map g) ∧ ∀ b ∈ as, H1 b = none ∧ b ≠ Dl)
      ⟨[], Evl.Ex.new hD, upd_same, trivial, fun b hb => (by cases hb)⟩
      (fun i H' _ ⟨_, e2, _⟩ => ex_l ((e0.trans e1).trans e2) hx)
      (fun i x H' hi ⟨as, e2, h2, hR, hF⟩ => ⟨hw x, by
        obtain ⟨n, hn, rfl⟩ := vns_get hi
        show te _ H' fun y H4 => _
        refine he n (List.mem_iff_getElem?.mpr ⟨i, hn⟩) H' ((e0.trans e1).trans e2) H' (Evl.Ex.refl _) _ fun r H4 hr e4 h4 => ?_
        have lt := (List.getElem?_eq_some_iff.mp hn).1
        have la : as.length = i := by rw [hR.length, List.length_map, List.length_take]; omega
        have rD : r ≠ Dl := by
          rintro rfl
          rw [h2] at hr
          cases hr
        refine ⟨refs as, e4 _ _ h2, sz_lt (by unfold refs; rw [List.length_map]; omega), as ++ [r], (e2.trans e4).mut hD, ?_, ?_, ?_⟩
        · unfold refs
          rw [List.map_append]
          exact upd_same
        · rw [take_more hn, List.map_append]
          refine RowsAt.upd ((hR.ex e4).snoc h4) fun xs _ z => ?_
          rcases List.mem_append.mp z with z | z
          · exact (hF _ z).2 rfl
          · rw [List.mem_singleton] at z
            exact rD z.symm
        · intro b hb
          rcases List.mem_append.mp hb with z | z
          · exact hF b z
          · rw [List.mem_singleton] at z
            subst z
            exact ⟨fresh_back e2 hr, rD⟩⟩)
      (fun H' ⟨as, e2, h2, hR, hF⟩ => q Dl H' as (fresh_back e1 hD) (e1.trans e2) h2 (by
        rw [vns_length, List.take_length] at hR
        exact hR) fun b hb => ⟨fresh_back e1 (hF b hb).1, (hF b hb).2⟩)⟩
theorem s_fldLL {rows : List (List Nat)} (hv : EvLL tv σ H rows) (ha : ∀ H1, Evl.Ex H H1 → Ev ta σ H1 (.ref a)) (ho : H a = some (.ins C dx fs)) (hc : Cls K C) (hn : NoAttr K C f) (hl : fs.length < 1000)
    (k : ∀ p H1 as, H p = none → Evl.Ex H H1 → H1 p = some (.lst (refs as)) → RowsAt H1 as rows → (∀ b ∈ as, H b = none ∧ b ≠ p) → D.nx σ (upd H1 a (.ins C dx (putF f (.ref p) fs)))) : sFld K ta tv f D σ H :=
  hv H (Evl.Ex.refl H) _ fun p H1 as hp e1 h1 hR hF => ha H1 e1 H1 (Evl.Ex.refl _) _ fun H2 e2 => ⟨a, C, dx, fs, rfl, (e1.trans e2) _ _ ho, hc, hn, hl, k p H2 as hp (e1.trans e2) (e2 _ _ h1) (hR.ex e2) hF⟩
theorem q_fldLL {rows : List (List Nat)} (hv : EvLL tv σ H rows) (ha : ∀ H1, Evl.Ex H H1 → Ev ta σ H1 (.ref a)) (ho : H a = some (.ins C dx fs)) (hc : Cls K C) (hn : NoAttr K C f) (hl : fs.length < 1000)
    (k : ∀ p H1 as, H p = none → Evl.Ex H H1 → H1 p = some (.lst (refs as)) → RowsAt H1 as rows → (∀ b ∈ as, H b = none ∧ b ≠ p) → tz D σ (upd H1 a (.ins C dx (putF f (.ref p) fs)))) : tSeq (sFld K ta tv f) tz D σ H :=
  s_fldLL (D := { D with nx := tz D }) hv ha ho hc hn hl k
end
end Kx

-- KStrokes
namespace Kx
open PySem PySem.Spec PyProof.Rows L2 Evl
open CdKeys (Policy Event over taken bit joined)
abbrev Rn := CdKeys.Run
abbrev Strk := Cd.Stroke

/-! ### Strokes: how it lies in the heap -/
def sF (p : Policy) (r : Rn) (mA : Addr) : List (Str × V) := [("way", vn p.way), ("gap", vn p.gap), ("keys_down", vn r.down), ("gone_down", vn r.fresh), ("last_down", vn r.last), ("made", .ref mA)]
def sNums (l : List Strk) : List Nat := l.flatMap fun x => [x.chord, x.tick]
theorem sNums_length (l : List Strk) : (sNums l).length = 2 * l.length := by
  induction l with
  | nil => rfl
  | cons a r ih =>
    show (sNums r).length + 2 = 2 * (r.length + 1)
    omega
theorem sNums_append (a b : List Strk) : sNums (a ++ b) = sNums a ++ sNums b := List.flatMap_append
structure StrokesAt (CS : Addr) (H : Hp) (a : Addr) (p : Policy) (r : Rn) (made : List Strk) (dx mA : Addr) : Prop where
  ob : H a = some (.ins CS dx (sF p r mA))
  ls : H mA = some (.lst (vns (sNums made)))
theorem StrokesAt.ne {CS : Addr} {H : Hp} {a dx mA : Addr} {p : Policy} {r : Rn} {made : List Strk} (h : StrokesAt CS H a p r made dx mA) : mA ≠ a := ne_lst_ins h.ls h.ob
theorem StrokesAt.ex {CS : Addr} {H H' : Hp} {a dx mA : Addr} {p : Policy} {r : Rn} {made : List Strk} (e : Evl.Ex H H') (h : StrokesAt CS H a p r made dx mA) : StrokesAt CS H' a p r made dx mA := ⟨e _ _ h.ob, e _ _ h.ls⟩
theorem StrokesAt.fr {CS : Addr} {H H' : Hp} {a dx mA : Addr} {p : Policy} {r : Rn} {made : List Strk} {S : List Addr} (e : Fr S H H') (h : StrokesAt CS H a p r made dx mA) (n1 : a ∉ S) (n2 : mA ∉ S) : StrokesAt CS H' a p r made dx mA := ⟨e _ _ h.ob n1, e _ _ h.ls n2⟩
section
variable {P : Program} {w : World} {K : PySem.W.Frag} {mg : Str → Option Value} {base : Heap} {CBoard CNumberedLine CStrokes CNews CPart CPlainLine CHall : Addr}
theorem ev_bit {σ : L2.St} {H : Hp} {t : TE} {n : Nat} (h : Ev t σ H (vn n)) (hn : n ≤ 1000) : Ev (tOp rShlN (tC (vn 1)) t) σ H (vn (2 ^ n)) := ev_is (evN ev_n h ⟨by decide, hn⟩) (by rw [Nat.one_mul])
/-- what a method that changes strokes does: from r, made to r', and it makes more -/
def StrDoes (CS : Addr) (H : Hp) (a : Addr) (p : Policy) (r' : Rn) (made' : List Strk) (dx mA : Addr) (Q : VK) : Prop := ∀ H', Fr [a, mA] H H' → StrokesAt CS H' a p r' made' dx mA → Q .non H'

/-! ### make -/
def spMake (CS : Addr) : Sp := fun vs H Q _ => ∃ (a dx mA : Addr) (p : Policy) (r : Rn) (made : List Strk) (c t : Nat), vs = [.ref a, vn c, vn t] ∧ StrokesAt CS H a p r made dx mA ∧ made.length ≤ 40000 ∧
  StrDoes CS H a p { r with fresh := 0 } (made ++ [⟨c, t⟩]) dx mA Q
theorem scStrokesMake : FnScope ["self", "chord", "tick"] ["self", "chord", "tick"] (defScope tStrokesMake) := ⟨rfl, rfl, rfl, by decide +kernel, rfl, by decide +kernel, by decide +kernel⟩
theorem ok_Strokes_make {f : Addr} {fd : FuncData} (D : RawM K CStrokes "make" "Strokes.make" tStrokesMake f fd) (T : Tx K mg CBoard CNumberedLine CStrokes CNews CPart CPlainLine CHall) : OkM P w K mg base 1 CStrokes "make" ["self", "chord", "tick"] (spMake CStrokes) f fd := by
  refine ⟨D.fn.ok scStrokesMake (fun vs H Q E h => ?_) (fun cdv A outer s H vs Q E hr h => ⟨_,
    (pss_cons (ps_expr (pe_bm PySem.F.plainAttrs_list PySem.F.slot_list_extend PySem.F.type_list_extend mt_extend (pe_fld (pv 0) rfl) (pa_cons (pe_lst (pa_cons (pv 1) (pa_cons (pv 2) pa_nil))) pa_nil)))
      (pss_one (ps_fld (pv 0) pe_n rfl))), ?_⟩), D.at_, D.fn.binds fun _ _ _ _ _ _ us hl => match us, hl with | [_, _, _], _ => rfl⟩
  · obtain ⟨a, dx, mA, p, r, made, c, t, rfl, _⟩ := h
    rfl
  · obtain ⟨a, dx, mA, p, r, made, c, t, rfl, hS, hl, k⟩ := h
    refine q_extL hS.ls (ev_fld (ev_var rfl) hS.ob T.c_Strokes T.n_Strokes_made rfl) (el_lst (ea_cons (ev_var rfl) (ea_cons (ev_var rfl) ea_nil)) few) (by rw [vns_length, sNums_length]; show _ + 2 ≤ _; omega) fun H1 e1 => ?_
    have o1 : upd H1 mA (.lst (vns (sNums made) ++ [vn c, vn t])) a = some (.ins CStrokes dx (sF p r mA)) := (upd_ne hS.ne.symm).trans (e1 _ _ hS.ob)
    refine s_fld ev_n (ev_var rfl) o1 T.c_Strokes T.n_Strokes_gone_down (by show 6 < 1000; decide) fun H2 e2 => ?_
    refine k _ ?_ ⟨upd_same, ?_⟩
    · exact (((Fr.of e1).trans (Fr.upd (by simp))).trans (Fr.of e2)).trans (Fr.upd (by simp))
    · rw [upd_ne hS.ne, sNums_append, vns_append]
      exact e2 _ _ upd_same

/-! ### reach -/
def spReach (CS : Addr) : Sp := fun vs H Q _ => ∃ (a dx mA : Addr) (p : Policy) (r : Rn) (made : List Strk) (t : Nat), vs = [.ref a, vn t] ∧ StrokesAt CS H a p r made dx mA ∧ made.length ≤ 40000 ∧
  StrDoes CS H a p (over p r t).2 (made ++ (over p r t).1) dx mA Q
theorem scStrokesReach : FnScope ["self", "tick", "over"] ["self", "tick"] (defScope tStrokesReach) := ⟨rfl, rfl, rfl, by decide +kernel, rfl, by decide +kernel, by decide +kernel⟩
theorem ok_Strokes_reach {f f1 : Addr} {fd fd1 : FuncData} (D : RawM K CStrokes "reach" "Strokes.reach" tStrokesReach f fd) (T : Tx K mg CBoard CNumberedLine CStrokes CNews CPart CPlainLine CHall) (G_Strokes_make : OkM P w K mg base 1 CStrokes "make" ["self", "chord", "tick"] (spMake CStrokes) f1 fd1) :
    OkM P w K mg base 2 CStrokes "reach" ["self", "tick"] (spReach CStrokes) f fd := by
  refine ⟨D.fn.ok scStrokesReach (fun vs H Q E h => ?_) (fun cdv A outer s H vs Q E hr h => ⟨_,
    (pss_cons (ps_set (i := 2) scStrokesReach.nd rfl (Or.inl rfl) (pe_op on_add (pe_fld (pv 0) rfl) (pe_fld (pv 0) rfl)))
      (pss_one (ps_if (PW.pt (pw_and (pt_cmpR on_eq (pe_fld (pv 0) rfl) (pe_gi T.g_BY_TIME) (nomark _)) (pw_and (pt_cmpR on_ne (pe_fld (pv 0) rfl) pe_n (nomark _)) (pw_and1 (pt_cmpR on_le (pv 2) (pv 1) (nomark _)))))) (pss_one (ps_expr (pe_ownM G_Strokes_make T.c_Strokes hr (pv 0) (pa_cons (pe_fld (pv 0) rfl) (pa_cons (pv 2) pa_nil))))) pss_nil))), ?_⟩), D.at_, D.fn.binds fun _ _ _ _ _ _ us hl => match us, hl with | [_, _], _ => rfl⟩
  · obtain ⟨a, dx, mA, p, r, made, t, rfl, _⟩ := h
    rfl
  · obtain ⟨a, dx, mA, p, r, made, t, rfl, hS, hl, k⟩ := h
    refine q_asg (evN (n := r.last) (m := p.gap) (ev_fld (ev_var rfl) hS.ob T.c_Strokes T.n_Strokes_last_down rfl) (ev_fld (ev_var rfl) hS.ob T.c_Strokes T.n_Strokes_gap rfl) trivial) fun H1 e1 => ?_
    have hS1 := hS.ex e1
    refine s_when (et_and (etN (g := fun n m => decide (n = m)) (n := p.way) (m := 2) (ev_fld (ev_var rfl) hS1.ob T.c_Strokes T.n_Strokes_way rfl) ev_c trivial) fun _ => et_and (etN (g := fun n m => !decide (n = m)) (n := r.fresh) (m := 0) (ev_fld (ev_var rfl) hS1.ob T.c_Strokes T.n_Strokes_gone_down rfl) ev_n trivial) fun _ =>
      etN (g := fun n m => decide (n ≤ m)) (n := r.last + p.gap) (m := t) (ev_var rfl) (ev_var rfl) trivial) (fun b H2 e2 => ?_) (fun b H2 e2 => ?_)
    · rw [Bool.and_eq_true, Bool.and_eq_true, decide_eq_true_eq, decide_eq_true_eq] at b
      have c : p.way = 2 ∧ r.fresh ≠ 0 ∧ r.last + p.gap ≤ t := ⟨b.1, by simpa using b.2.1, b.2.2⟩
      have hS2 := hS1.ex e2
      refine s_callM (ev_var rfl) hS2.ob rfl (fun H3 e3 => ea_cons (ev_fld (ev_var rfl) (e3 _ _ hS2.ob) T.c_Strokes T.n_Strokes_gone_down rfl) (ea_cons (ev_var rfl) ea_nil)) fun H3 e3 => ?_
      refine ⟨a, dx, mA, p, r, made, r.fresh, r.last + p.gap, rfl, hS2.ex e3, hl, fun H' fr st => ?_⟩
      rw [over_on c] at k
      exact k H' ((Fr.of ((e1.trans e2).trans e3)).trans fr) st
    · have c : ¬ (p.way = 2 ∧ r.fresh ≠ 0 ∧ r.last + p.gap ≤ t) := by
        intro z
        have : (decide (p.way = 2) && (!decide (r.fresh = 0) && decide (r.last + p.gap ≤ t))) = true := by simp [z.1, z.2.1, z.2.2]
        rw [this] at b
        cases b
      rw [over_off c, List.append_nil] at k
      exact k H2 (Fr.of (e1.trans e2)) (hS1.ex e2)

/-! ### press -/
def spPress (CS : Addr) : Sp := fun vs H Q _ => ∃ (a dx mA : Addr) (p : Policy) (r : Rn) (made : List Strk) (key t : Nat), vs = [.ref a, vn key, vn t] ∧ StrokesAt CS H a p r made dx mA ∧ made.length ≤ 40000 ∧ key ≤ 1000 ∧
  StrDoes CS H a p (taken p r ⟨t, key, true⟩).2 (made ++ (taken p r ⟨t, key, true⟩).1) dx mA Q
theorem scStrokesPress : FnScope ["self", "key", "tick"] ["self", "key", "tick"] (defScope tStrokesPress) := ⟨rfl, rfl, rfl, by decide +kernel, rfl, by decide +kernel, by decide +kernel⟩
theorem ok_Strokes_press {f f1 : Addr} {fd fd1 : FuncData} (D : RawM K CStrokes "press" "Strokes.press" tStrokesPress f fd) (T : Tx K mg CBoard CNumberedLine CStrokes CNews CPart CPlainLine CHall) (G_Strokes_reach : OkM P w K mg base 2 CStrokes "reach" ["self", "tick"] (spReach CStrokes) f1 fd1) :
    OkM P w K mg base 3 CStrokes "press" ["self", "key", "tick"] (spPress CStrokes) f fd := by
  refine ⟨D.fn.ok scStrokesPress (fun vs H Q E h => ?_) (fun cdv A outer s H vs Q E hr h => ⟨_,
    (pss_cons (ps_expr (pe_ownM G_Strokes_reach T.c_Strokes hr (pv 0) (pa_cons (pv 2) pa_nil)))
      (pss_cons (ps_fld (pv 0) (pe_op on_or (pe_fld (pv 0) rfl) (pe_op on_shl pe_n (pv 1))) rfl)
      (pss_cons (ps_fld (pv 0) (pe_op on_or (pe_fld (pv 0) rfl) (pe_op on_shl pe_n (pv 1))) rfl)
      (pss_one (ps_fld (pv 0) (pv 2) rfl))))), ?_⟩), D.at_, D.fn.binds fun _ _ _ _ _ _ us hl => match us, hl with | [_, _, _], _ => rfl⟩
  · obtain ⟨a, dx, mA, p, r, made, key, t, rfl, _⟩ := h
    rfl
  · obtain ⟨a, dx, mA, p, r, made, key, t, rfl, hS, hl, hk, k⟩ := h
    refine q_callM (ev_var rfl) hS.ob rfl (fun H1 e1 => ea_cons (ev_var rfl) ea_nil) fun H1 e1 => ?_
    refine ⟨a, dx, mA, p, r, made, t, rfl, hS.ex e1, hl, fun H2 f2 st => ?_⟩
    generalize hr' : (over p r t).2 = r' at st
    generalize hm' : made ++ (over p r t).1 = made' at st
    have hd : r'.down = r.down := by rw [← hr', over_down]
    refine q_fld (evN (n := r'.down) (m := 2 ^ key) (ev_fld (ev_var rfl) st.ob T.c_Strokes T.n_Strokes_keys_down rfl) (ev_bit (ev_var rfl) hk) trivial) (ev_var rfl) st.ob T.c_Strokes T.n_Strokes_keys_down (by show 6 < 1000; decide) fun H3 e3 => ?_
    have o3 : upd H3 a (.ins CStrokes dx (putF "keys_down" (vn (r'.down ||| 2 ^ key)) (sF p r' mA))) a = some (.ins CStrokes dx (sF p { r' with down := r'.down ||| 2 ^ key } mA)) := upd_same
    refine q_fld (evN (n := r'.fresh) (m := 2 ^ key) (ev_fld (ev_var rfl) o3 T.c_Strokes T.n_Strokes_gone_down rfl) (ev_bit (ev_var rfl) hk) trivial) (ev_var rfl) o3 T.c_Strokes T.n_Strokes_gone_down (by show 6 < 1000; decide) fun H4 e4 => ?_
    have o4 : upd H4 a (.ins CStrokes dx (putF "gone_down" (vn (r'.fresh ||| 2 ^ key)) (sF p { r' with down := r'.down ||| 2 ^ key } mA))) a = some (.ins CStrokes dx (sF p { r' with down := r'.down ||| 2 ^ key, fresh := r'.fresh ||| 2 ^ key } mA)) := upd_same
    refine s_fld (ev_var rfl) (ev_var rfl) o4 T.c_Strokes T.n_Strokes_last_down (by show 6 < 1000; decide) fun H5 e5 => ?_
    have tk : taken p r ⟨t, key, true⟩ = ((over p r t).1, { down := joined r.down (bit key), fresh := joined (over p r t).2.fresh (bit key), last := t }) := taken_down p r ⟨t, key, true⟩ rfl
    rw [tk] at k
    refine k _ ?_ ⟨?_, ?_⟩
    · have fa : ∀ (H : Hp) (o : HO), Fr [a, mA] H (upd H a o) := fun H o => Fr.upd (by simp)
      exact ((((((Fr.of e1).trans f2).trans (Fr.of e3)).trans (fa _ _)).trans (Fr.of e4)).trans (fa _ _)).trans ((Fr.of e5).trans (fa _ _))
    · refine upd_same.trans ?_
      rw [← hd, hr']
      rfl
    · rw [upd_ne st.ne, hm']
      refine e5 _ _ ?_
      rw [upd_ne st.ne]
      refine e4 _ _ ?_
      rw [upd_ne st.ne]
      exact e3 _ _ st.ls

/-! ### lift -/
def spLift (CS : Addr) : Sp := fun vs H Q _ => ∃ (a dx mA : Addr) (p : Policy) (r : Rn) (made : List Strk) (key t : Nat), vs = [.ref a, vn key, vn t] ∧ StrokesAt CS H a p r made dx mA ∧ made.length ≤ 40000 ∧ key ≤ 1000 ∧
  StrDoes CS H a p (plift p r ⟨t, key, false⟩).2 (made ++ (plift p r ⟨t, key, false⟩).1) dx mA Q
theorem scStrokesLift : FnScope ["self", "key", "tick", "were_down"] ["self", "key", "tick"] (defScope tStrokesLift) := ⟨rfl, rfl, rfl, by decide +kernel, rfl, by decide +kernel, by decide +kernel⟩
theorem ok_Strokes_lift {f f1 : Addr} {fd fd1 : FuncData} (D : RawM K CStrokes "lift" "Strokes.lift" tStrokesLift f fd) (T : Tx K mg CBoard CNumberedLine CStrokes CNews CPart CPlainLine CHall) (G_Strokes_make : OkM P w K mg base 1 CStrokes "make" ["self", "chord", "tick"] (spMake CStrokes) f1 fd1) :
    OkM P w K mg base 2 CStrokes "lift" ["self", "key", "tick"] (spLift CStrokes) f fd := by
  refine ⟨D.fn.ok scStrokesLift (fun vs H Q E h => ?_) (fun cdv A outer s H vs Q E hr h => ⟨_,
    (pss_cons (ps_set (i := 3) scStrokesLift.nd rfl (Or.inl rfl) (pe_fld (pv 0) rfl))
      (pss_cons (ps_fld (pv 0) (pe_op on_xor (pv 3) (pe_op on_shl pe_n (pv 1))) rfl)
      (pss_one (ps_if (PW.pt (pw_and (pt_cmpR on_eq (pe_fld (pv 0) rfl) (pe_gi T.g_ALL_UP) (nomark _)) (pw_and1 (pt_cmpR on_eq (pe_fld (pv 0) rfl) pe_n (nomark _))))) (pss_one (ps_expr (pe_ownM G_Strokes_make T.c_Strokes hr (pv 0) (pa_cons (pe_fld (pv 0) rfl) (pa_cons (pv 2) pa_nil))))) (pss_one (ps_if (PW.pt (pw_and (pt_cmpR on_eq (pe_fld (pv 0) rfl) (pe_gi T.g_FIRST_UP) (nomark _)) (pw_and1 (pt_cmpR on_ne (pe_fld (pv 0) rfl) pe_n (nomark _))))) (pss_one (ps_expr (pe_ownM G_Strokes_make T.c_Strokes hr (pv 0) (pa_cons (pv 3) (pa_cons (pv 2) pa_nil))))) pss_nil)))))), ?_⟩), D.at_, D.fn.binds fun _ _ _ _ _ _ us hl => match us, hl with | [_, _, _], _ => rfl⟩
  · obtain ⟨a, dx, mA, p, r, made, key, t, rfl, _⟩ := h
    rfl
  · obtain ⟨a, dx, mA, p, r, made, key, t, rfl, hS, hl, hk, k⟩ := h
    refine q_asg (ev_fld (ev_var rfl) hS.ob T.c_Strokes T.n_Strokes_keys_down (v := vn r.down) rfl) fun H1 e1 => ?_
    have hS1 := hS.ex e1
    refine q_fld (evN (n := r.down) (m := 2 ^ key) (ev_var rfl) (ev_bit (ev_var rfl) hk) trivial) (ev_var rfl) hS1.ob T.c_Strokes T.n_Strokes_keys_down (by show 6 < 1000; decide) fun H2 e2 => ?_
    have st : StrokesAt CStrokes (upd H2 a (.ins CStrokes dx (putF "keys_down" (vn (r.down ^^^ 2 ^ key)) (sF p r mA)))) a p { r with down := r.down ^^^ 2 ^ key } made dx mA := ⟨upd_same, (upd_ne hS.ne).trans (e2 _ _ hS1.ls)⟩
    have f2 : Fr [a, mA] H (upd H2 a (.ins CStrokes dx (putF "keys_down" (vn (r.down ^^^ 2 ^ key)) (sF p r mA)))) := (Fr.of (e1.trans e2)).trans (Fr.upd (by simp))
    generalize upd H2 a (.ins CStrokes dx (putF "keys_down" (vn (r.down ^^^ 2 ^ key)) (sF p r mA))) = H3 at st f2
    refine s_if (et_and (etN (g := fun n m => decide (n = m)) (n := p.way) (m := 0) (ev_fld (ev_var rfl) st.ob T.c_Strokes T.n_Strokes_way rfl) ev_c trivial) fun _ => etN (g := fun n m => decide (n = m)) (n := r.down ^^^ 2 ^ key) (m := 0) (ev_fld (ev_var rfl) st.ob T.c_Strokes T.n_Strokes_keys_down rfl) ev_n trivial) (fun b H4 e4 => ?_) (fun b H4 e4 => ?_)
    · rw [Bool.and_eq_true, decide_eq_true_eq, decide_eq_true_eq] at b
      have st4 := st.ex e4
      refine s_callM (ev_var rfl) st4.ob rfl (fun H5 e5 => ea_cons (ev_fld (ev_var rfl) (e5 _ _ st4.ob) T.c_Strokes T.n_Strokes_gone_down rfl) (ea_cons (ev_var rfl) ea_nil)) fun H5 e5 => ?_
      refine ⟨a, dx, mA, p, _, made, r.fresh, t, rfl, st4.ex e5, hl, fun H' fr s' => ?_⟩
      have e : plift p r ⟨t, key, false⟩ = ([⟨r.fresh, t⟩], { r with down := r.down ^^^ 2 ^ key, fresh := 0 }) := if_pos b
      rw [e] at k
      exact k H' ((f2.trans (Fr.of (e4.trans e5))).trans fr) s'
    · have n0 : ¬ (p.way = 0 ∧ r.down ^^^ 2 ^ key = 0) := by
        intro z
        rw [decide_eq_true z.1, decide_eq_true z.2] at b
        cases b
      have st4 := st.ex e4
      refine s_when (et_and (etN (g := fun n m => decide (n = m)) (n := p.way) (m := 1) (ev_fld (ev_var rfl) st4.ob T.c_Strokes T.n_Strokes_way rfl) ev_c trivial) fun _ => etN (g := fun n m => !decide (n = m)) (n := r.fresh) (m := 0) (ev_fld (ev_var rfl) st4.ob T.c_Strokes T.n_Strokes_gone_down rfl) ev_n trivial) (fun b H5 e5 => ?_) (fun b H5 e5 => ?_)
      · rw [Bool.and_eq_true, decide_eq_true_eq] at b
        have c : p.way = 1 ∧ r.fresh ≠ 0 := ⟨b.1, by simpa using b.2⟩
        have st5 := st4.ex e5
        refine s_callM (ev_var rfl) st5.ob rfl (fun H6 e6 => ea_cons (ev_var rfl) (ea_cons (ev_var rfl) ea_nil)) fun H6 e6 => ?_
        refine ⟨a, dx, mA, p, _, made, r.down, t, rfl, st5.ex e6, hl, fun H' fr s' => ?_⟩
        have e : plift p r ⟨t, key, false⟩ = ([⟨r.down, t⟩], { r with down := r.down ^^^ 2 ^ key, fresh := 0 }) := (if_neg n0).trans (if_pos c)
        rw [e] at k
        exact k H' ((f2.trans (Fr.of ((e4.trans e5).trans e6))).trans fr) s'
      · have c : ¬ (p.way = 1 ∧ r.fresh ≠ 0) := by
          intro z
          have : (decide (p.way = 1) && !decide (r.fresh = 0)) = true := by simp [z.1, z.2]
          rw [this] at b
          cases b
        have e : plift p r ⟨t, key, false⟩ = ([], { r with down := r.down ^^^ 2 ^ key }) := (if_neg n0).trans (if_neg c)
        rw [e, List.append_nil] at k
        exact k H5 (f2.trans (Fr.of (e4.trans e5))) (st4.ex e5)

/-! ### hand_over -/
def spHandOver (CS : Addr) : Sp := fun vs H Q _ => ∃ (a dx mA : Addr) (p : Policy) (r : Rn) (made : List Strk), vs = [.ref a] ∧ StrokesAt CS H a p r made dx mA ∧
  ∀ (H' : Hp) (m2 : Addr), Fr [a] H H' → H m2 = none → H' mA = some (.lst (vns (sNums made))) → StrokesAt CS H' a p r [] dx m2 → Q (.ref mA) H'
theorem scStrokesHandOver : FnScope ["self", "made"] ["self"] (defScope tStrokesHandOver) := ⟨rfl, rfl, rfl, by decide +kernel, rfl, by decide +kernel, by decide +kernel⟩
theorem ok_Strokes_hand_over {f : Addr} {fd : FuncData} (D : RawM K CStrokes "hand_over" "Strokes.hand_over" tStrokesHandOver f fd) (T : Tx K mg CBoard CNumberedLine CStrokes CNews CPart CPlainLine CHall) : OkM P w K mg base 1 CStrokes "hand_over" ["self"] (spHandOver CStrokes) f fd := by
  refine ⟨D.fn.ok scStrokesHandOver (fun vs H Q E h => ?_) (fun cdv A outer s H vs Q E hr h => ⟨_,
    (pss_cons (ps_set (i := 1) scStrokesHandOver.nd rfl (Or.inl rfl) (pe_fld (pv 0) rfl))
      (pss_cons (ps_fld (pv 0) (pe_lst pa_nil) rfl)
      (pss_one (ps_ret (pv 1))))), ?_⟩), D.at_, D.fn.binds fun _ _ _ _ _ _ us hl => match us, hl with | [_], _ => rfl⟩
  · obtain ⟨a, dx, mA, p, r, made, rfl, _⟩ := h
    rfl
  · obtain ⟨a, dx, mA, p, r, made, rfl, hS, k⟩ := h
    refine q_asg (ev_fld (ev_var rfl) hS.ob T.c_Strokes T.n_Strokes_made (v := .ref mA) rfl) fun H1 e1 => ?_
    have hS1 := hS.ex e1
    refine q_fldL (el_lst ea_nil few) (fun _ _ => ev_var rfl) hS1.ob T.c_Strokes T.n_Strokes_made (by show 6 < 1000; decide) fun m2 H2 hm e2 h2 => ?_
    refine s_ret (ev_var rfl) fun H3 e3 => ?_
    refine k H3 m2 ?_ (fresh_back e1 hm) (e3 _ _ ((upd_ne hS.ne).trans (e2 _ _ hS1.ls))) ⟨e3 _ _ upd_same, e3 _ _ ((upd_ne (ne_of_none hS1.ob hm).symm).trans h2)⟩
    exact ((Fr.of (e1.trans e2)).trans (Fr.upd (by simp))).trans (Fr.of e3)

/-! ### __init__ -/
def spStrokesInit (CS : Addr) : Sp := fun vs H Q _ => ∃ (a dx : Addr) (p : Policy), vs = [.ref a, vn p.way, vn p.gap] ∧ H a = some (.ins CS dx []) ∧
  ∀ (H' : Hp) (mA : Addr), Fr [a] H H' → H mA = none → StrokesAt CS H' a p CdKeys.resting [] dx mA → Q .non H'
theorem scStrokesInit : FnScope ["self", "way", "gap"] ["self", "way", "gap"] (defScope tStrokesInit) := ⟨rfl, rfl, rfl, by decide +kernel, rfl, by decide +kernel, by decide +kernel⟩
theorem ok_Strokes_init {f : Addr} {fd : FuncData} (D : Fun K "__init__" "Strokes.__init__" tStrokesInit f fd) (T : Tx K mg CBoard CNumberedLine CStrokes CNews CPart CPlainLine CHall) : FnOk P w K mg base CX0 1 f fd ["self", "way", "gap"] (spStrokesInit CStrokes) := by
  refine D.ok scStrokesInit (fun vs H Q E h => ?_) (fun cdv A outer s H vs Q E hr h => ⟨_,
    (pss_cons (ps_fld (pv 0) (pv 1) rfl)
      (pss_cons (ps_fld (pv 0) (pv 2) rfl)
      (pss_cons (ps_fld (pv 0) pe_n rfl)
      (pss_cons (ps_fld (pv 0) pe_n rfl)
      (pss_cons (ps_fld (pv 0) pe_n rfl)
      (pss_one (ps_fld (pv 0) (pe_lst pa_nil) rfl))))))), ?_⟩)
  · obtain ⟨a, dx, p, rfl, _⟩ := h
    rfl
  · obtain ⟨a, dx, p, rfl, ho, k⟩ := h
    refine q_fld (ev_var rfl) (ev_var rfl) ho T.c_Strokes T.n_Strokes_way (by show 0 < 1000; decide) fun H1 e1 => ?_
    refine q_fld (ev_var rfl) (ev_var rfl) upd_same T.c_Strokes T.n_Strokes_gap (by show 1 < 1000; decide) fun H2 e2 => ?_
    refine q_fld ev_n (ev_var rfl) upd_same T.c_Strokes T.n_Strokes_keys_down (by show 2 < 1000; decide) fun H3 e3 => ?_
    refine q_fld ev_n (ev_var rfl) upd_same T.c_Strokes T.n_Strokes_gone_down (by show 3 < 1000; decide) fun H4 e4 => ?_
    refine q_fld ev_n (ev_var rfl) upd_same T.c_Strokes T.n_Strokes_last_down (by show 4 < 1000; decide) fun H5 e5 => ?_
    refine s_fldL (el_lst ea_nil few) (fun _ _ => ev_var rfl) upd_same T.c_Strokes T.n_Strokes_made (by show 5 < 1000; decide) fun mA H6 hm e6 h6 => ?_
    have fa : ∀ (H : Hp) (o : HO), Fr [a] H (upd H a o) := fun H o => Fr.upd (by simp)
    have fr : Fr [a] H (upd H5 a (.ins CStrokes dx (putF "last_down" (vn 0) (putF "gone_down" (vn 0) (putF "keys_down" (vn 0) (putF "gap" (vn p.gap) (putF "way" (vn p.way) []))))))) :=
      ((((((((((Fr.of e1).trans (fa _ _)).trans (Fr.of e2)).trans (fa _ _)).trans (Fr.of e3)).trans (fa _ _)).trans (Fr.of e4)).trans (fa _ _)).trans (Fr.of e5)).trans (fa _ _))
    have na : mA ≠ a := by
      rintro rfl
      rw [upd_same] at hm
      cases hm
    refine k _ mA ((fr.trans (Fr.of e6)).trans (fa _ _)) ?_ ⟨upd_same, (upd_ne na).trans h6⟩
    cases q : H mA with
    | none => rfl
    | some o =>
      have := fr _ _ q (by simpa using na)
      rw [this] at hm
      cases hm
end
end Kx

-- KNews
namespace Kx
open PySem PySem.Spec PyProof.Rows L2 Evl
open CdKeys (Policy over taken bit joined)
abbrev Evt := CdKeys.Event

/-! ### dicts of numbers by numbers -/
def UpsAt (H : Hp) (d : Addr) (u : Ups) (n : Nat) : Prop := ∃ kvs : List (Key × V), H d = some (.dK kvs) ∧ (∀ k : Nat, valV kvs (Sum.inl (k : Int)) = (u k).map vn) ∧ kvs.length ≤ n
theorem UpsAt.ex {H H' : Hp} {d : Addr} {u : Ups} {n : Nat} (e : Evl.Ex H H') (h : UpsAt H d u n) : UpsAt H' d u n := by
  obtain ⟨kvs, h1, h2⟩ := h
  exact ⟨kvs, e _ _ h1, h2⟩
theorem UpsAt.fr {S : List Addr} {H H' : Hp} {d : Addr} {u : Ups} {n : Nat} (e : Fr S H H') (h : UpsAt H d u n) (no : d ∉ S) : UpsAt H' d u n := by
  obtain ⟨kvs, h1, h2⟩ := h
  exact ⟨kvs, e _ _ h1 no, h2⟩
theorem UpsAt.le {H : Hp} {d : Addr} {u : Ups} {n m : Nat} (h : UpsAt H d u n) (l : n ≤ m) : UpsAt H d u m := by
  obtain ⟨kvs, h1, h2, h3⟩ := h
  exact ⟨kvs, h1, h2, by omega⟩
section
variable {K : PySem.W.Frag} {σ : L2.St} {H : Hp} {td ty tv : TE} {d : Addr} {u : Ups} {k n t v : Nat} {D : Ends} {tz : TS}
theorem ev_din (hy : Ev ty σ H (vn k)) (hd : Ev td σ H (.ref d)) (h : UpsAt H d u n) : Ev (tDIn ty td) σ H (.bl (u k).isSome) := fun H1 e Q q =>
  hy H1 e _ fun H2 e2 => hd H2 (e.trans e2) _ fun H3 e3 => by
    obtain ⟨kvs, h1, h2, _⟩ := h
    refine ⟨d, _, rfl, DGet.k (k := Sum.inl (k : Int)) (((e.trans e2).trans e3) _ _ h1), ?_⟩
    have r : (valV kvs (Sum.inl (k : Int))).isSome = (u k).isSome := by
      rw [h2]
      cases u k <;> rfl
    rw [r]
    exact q H3 (e2.trans e3)
theorem et_din (hy : Ev ty σ H (vn k)) (hd : Ev td σ H (.ref d)) (h : UpsAt H d u n) : EvT (tB (tDIn ty td)) σ H (u k).isSome := et_B (ev_din hy hd h)
theorem ev_dget (hd : Ev td σ H (.ref d)) (hy : Ev ty σ H (vn k)) (h : UpsAt H d u n) (hu : u k = some t) : Ev (tDGet td ty) σ H (vn t) := fun H1 e Q q =>
  hd H1 e _ fun H2 e2 => hy H2 (e.trans e2) _ fun H3 e3 => by
    obtain ⟨kvs, h1, h2, _⟩ := h
    have g := DGet.k (k := Sum.inl (k : Int)) (((e.trans e2).trans e3) _ _ h1)
    rw [h2, hu] at g
    exact ⟨d, vn t, rfl, g, q H3 (e2.trans e3)⟩
theorem s_dput (hv : Ev tv σ H (vn v)) (hd : Ev td σ H (.ref d)) (hy : Ev ty σ H (vn k)) (h : UpsAt H d u n) (hn : n < 100000) (kk : ∀ H1 o, Evl.Ex H H1 → UpsAt (upd H1 d o) d (upU u k v) (n + 1) → D.nx σ (upd H1 d o)) : sDPut td ty tv D σ H :=
  hv H (Evl.Ex.refl H) _ fun H1 e1 => hd H1 e1 _ fun H2 e2 => hy H2 (e1.trans e2) _ fun H3 e3 => by
    obtain ⟨kvs, h1, h2, h3⟩ := h
    refine ⟨d, _, rfl, DPut.k (k := Sum.inl (k : Int)) (((e1.trans e2).trans e3) _ _ h1) (sz_lt (by omega)), kk H3 _ ((e1.trans e2).trans e3) ⟨_, upd_same, fun j => ?_, Nat.le_trans (length_putK _ _ _) (by omega)⟩⟩
    rw [valV_put, h2]
    unfold upU
    by_cases c : j = k
    · subst c
      rw [if_pos rfl, if_pos rfl]
      rfl
    · rw [if_neg (by
        intro z
        have := Sum.inl.inj z
        omega), if_neg c]
theorem q_dput (hv : Ev tv σ H (vn v)) (hd : Ev td σ H (.ref d)) (hy : Ev ty σ H (vn k)) (h : UpsAt H d u n) (hn : n < 100000) (kk : ∀ H1 o, Evl.Ex H H1 → UpsAt (upd H1 d o) d (upU u k v) (n + 1) → tz D σ (upd H1 d o)) : tSeq (sDPut td ty tv) tz D σ H :=
  s_dput (D := { D with nx := tz D }) hv hd hy h hn kk
/-- a copy -/
theorem q_dcopy {i : Nat} {ta : TE} (ha : Ev ta σ H (.ref d)) (h : UpsAt H d u n) (kk : ∀ p H1, H p = none → Evl.Ex H H1 → UpsAt H1 p u n → tz D (σ.set i (some (.ref p))) H1) :
    tSeq (tAsg (tCB (fun xs H Q => ∃ (a : Addr) (kvs : List (Key × V)), xs = [.ref a] ∧ Rd H a (.dK kvs) ∧ ∀ p, H p = none → Q (.ref p) (upd H p (.dK kvs))) (tCons ta tNil)) (gName i)) tz D σ H :=
  ha H (Evl.Ex.refl H) _ fun H1 e1 => by
    obtain ⟨kvs, h1, h2, h3⟩ := h
    exact ⟨d, kvs, rfl, .inl (e1 _ _ h1), fun p hp => kk p _ (fresh_back e1 hp) (e1.trans (Evl.Ex.new hp)) ⟨kvs, upd_same, h2, h3⟩⟩
theorem q_dnew {i : Nat} (kk : ∀ p H1, H p = none → Evl.Ex H H1 → UpsAt H1 p noUps 0 → tz D (σ.set i (some (.ref p))) H1) : tSeq (tAsg tDNewK (gName i)) tz D σ H :=
  fun p hp => kk p _ hp (Evl.Ex.new hp) ⟨[], upd_same, fun _ => rfl, Nat.le_refl _⟩
end

/-! ### changes: a list of tuples -/
def tcV (x : Tc) : List V := [vn x.1.tick, vn x.1.key, vn (if x.1.down = true then 1 else 0), .bl x.2]
def TcsAt (H : Hp) : List Addr → List Tc → Prop
  | [], [] => True
  | a :: as, x :: r => H a = some (.tup (tcV x)) ∧ TcsAt H as r
  | _, _ => False
theorem TcsAt.ex {H H' : Hp} (e : Evl.Ex H H') : ∀ {as : List Addr} {r : List Tc}, TcsAt H as r → TcsAt H' as r
  | [], [], _ => trivial
  | _ :: _, _ :: _, ⟨h, t⟩ => ⟨e _ _ h, t.ex e⟩
  | [], _ :: _, h => h.elim
  | _ :: _, [], h => h.elim
/-- tuples stay where only lists, dicts and instances change -/
theorem TcsAt.fr {H H' : Hp} {S : List Addr} (e : Fr S H H') (n : ∀ s ∈ S, ∀ xs, H s ≠ some (.tup xs)) : ∀ {as : List Addr} {r : List Tc}, TcsAt H as r → TcsAt H' as r
  | [], [], _ => trivial
  | a :: _, _ :: _, ⟨h, t⟩ => ⟨e _ _ h fun z => n _ z _ h, t.fr e n⟩
  | [], _ :: _, h => h.elim
  | _ :: _, [], h => h.elim
theorem TcsAt.snoc {H : Hp} {a : Addr} {x : Tc} (h : H a = some (.tup (tcV x))) : ∀ {as : List Addr} {r : List Tc}, TcsAt H as r → TcsAt H (as ++ [a]) (r ++ [x])
  | [], [], _ => ⟨h, trivial⟩
  | _ :: _, _ :: _, ⟨h1, t⟩ => ⟨h1, t.snoc h⟩
  | [], _ :: _, h => h.elim
  | _ :: _, [], h => h.elim
theorem TcsAt.append {H : Hp} : ∀ {as bs : List Addr} {r s : List Tc}, TcsAt H as r → TcsAt H bs s → TcsAt H (as ++ bs) (r ++ s)
  | [], _, [], _, _, h => h
  | _ :: _, _, _ :: _, _, ⟨h1, t⟩, h => ⟨h1, t.append h⟩
  | [], _, _ :: _, _, h, _ => h.elim
  | _ :: _, _, [], _, h, _ => h.elim
theorem TcsAt.length {H : Hp} : ∀ {as : List Addr} {r : List Tc}, TcsAt H as r → as.length = r.length
  | [], [], _ => rfl
  | _ :: _, _ :: _, ⟨_, t⟩ => congrArg (· + 1) t.length
  | [], _ :: _, h => h.elim
  | _ :: _, [], h => h.elim
theorem TcsAt.drop {H : Hp} : ∀ (i : Nat) {as : List Addr} {r : List Tc}, TcsAt H as r → TcsAt H (as.drop i) (r.drop i)
  | 0, _, _, h => h
  | _ + 1, [], [], _ => trivial
  | i + 1, _ :: _, _ :: _, ⟨_, t⟩ => t.drop i
  | _ + 1, [], _ :: _, h => h.elim
  | _ + 1, _ :: _, [], h => h.elim
theorem TcsAt.take {H : Hp} : ∀ (i : Nat) {as : List Addr} {r : List Tc}, TcsAt H as r → TcsAt H (as.take i) (r.take i)
  | 0, _, _, _ => by
    rw [List.take_zero, List.take_zero]
    trivial
  | _ + 1, [], [], _ => trivial
  | i + 1, _ :: _, _ :: _, ⟨h, t⟩ => ⟨h, t.take i⟩
  | _ + 1, [], _ :: _, h => h.elim
  | _ + 1, _ :: _, [], h => h.elim
theorem TcsAt.at : ∀ {H : Hp} {as : List Addr} {r : List Tc} {i : Nat} {x : Tc}, TcsAt H as r → r[i]? = some x → ∃ a, as[i]? = some a ∧ H a = some (.tup (tcV x))
  | _, [], [], _, _, _, h => by simp at h
  | _, a :: _, _ :: _, 0, _, ⟨h, _⟩, e => by
    have := Option.some.inj e
    subst this
    exact ⟨a, rfl, h⟩
  | _, _ :: _, _ :: _, i + 1, _, ⟨_, t⟩, e => t.at (i := i) e
  | _, [], _ :: _, _, _, h, _ => h.elim
  | _, _ :: _, [], _, _, h, _ => h.elim
def ChAt (H : Hp) (l : Addr) (T : List Tc) (as : List Addr) : Prop := H l = some (.lst (refs as)) ∧ TcsAt H as T
theorem refs_length (as : List Addr) : (refs as).length = as.length := List.length_map _
theorem refs_append (as bs : List Addr) : refs (as ++ bs) = refs as ++ refs bs := List.map_append

/-! ### the numbers of events -/
theorem evs_at : ∀ {ns : List Nat} {l : List Evt} {i : Nat} {e : Evt}, KeysCalls.eventsIn ns = some l → l[i]? = some e →
    ns[2 * i]? = some e.tick ∧ ∃ k, ns[2 * i + 1]? = some k ∧ e.key = k / 2 ∧ e.down = (k % 2 == 1)
  | [], _, _, _, h, hi => by
    cases h
    simp at hi
  | [_], _, _, _, h, _ => by cases h
  | t :: k :: r, l, i, e, h, hi => by
    have h' : (KeysCalls.eventsIn r).map (fun l : List Evt => (⟨t, k / 2, k % 2 == 1⟩ : Evt) :: l) = some l := h
    cases hr : KeysCalls.eventsIn r with
    | none =>
      rw [hr] at h'
      cases h'
    | some m =>
      rw [hr] at h'
      have el := Option.some.inj h'
      subst el
      cases i with
      | zero =>
        have ee := Option.some.inj hi
        subst ee
        exact ⟨rfl, k, rfl, rfl, rfl⟩
      | succ i =>
        have ih := evs_at (i := i) hr hi
        rw [show 2 * (i + 1) = (2 * i + 1) + 1 by omega]
        exact ih
theorem evs_length : ∀ {ns : List Nat} {l : List Evt}, KeysCalls.eventsIn ns = some l → ns.length = 2 * l.length
  | [], _, h => by
    cases h
    rfl
  | [_], _, h => by cases h
  | t :: k :: r, l, h => by
    have h' : (KeysCalls.eventsIn r).map (fun l : List Evt => (⟨t, k / 2, k % 2 == 1⟩ : Evt) :: l) = some l := h
    cases hr : KeysCalls.eventsIn r with
    | none =>
      rw [hr] at h'
      cases h'
    | some m =>
      rw [hr] at h'
      have el := Option.some.inj h'
      subst el
      have ih := evs_length hr
      rw [List.length_cons, List.length_cons, List.length_cons]
      omega
/-- one event more -/
theorem chIn_snoc (b : Nat) (e : Evt) : ∀ (l : List Evt) (h : Nat) (u : Ups), chIn b h u (l ++ [e]) =
    if (chIn b h u l).2.1.testBit e.key = e.down then chIn b h u l
    else ((chIn b h u l).1 ++ [(e, soon b (chIn b h u l).2.2 e)], (turnKey (chIn b h u l).2.1 e.key e.down, nextUps (chIn b h u l).2.2 e))
  | [], h, u => by
    show chIn b h u [e] = if h.testBit e.key = e.down then ([], (h, u)) else ([(e, soon b u e)], (turnKey h e.key e.down, nextUps u e))
    unfold chIn
    split
    · rfl
    · rfl
  | a :: r, h, u => by
    rw [List.cons_append]
    unfold chIn
    by_cases c : h.testBit a.key = a.down
    · rw [if_pos c, if_pos c]
      exact chIn_snoc b e r h u
    · rw [if_neg c, if_neg c, chIn_snoc b e r]
      dsimp only
      split
      · rfl
      · rfl
theorem chIn_length (b : Nat) : ∀ (l : List Evt) (h : Nat) (u : Ups), (chIn b h u l).1.length ≤ l.length
  | [], _, _ => Nat.le_refl _
  | a :: r, h, u => by
    unfold chIn
    split
    · exact Nat.le_succ_of_le (chIn_length b r h u)
    · exact Nat.succ_le_succ (chIn_length b r _ _)
theorem rg2 {n : Nat} (h : n ≤ 50000) : RgC 0 ((2 * n : Nat) : Int) 2 n := by
  have r : Builtin.Range.rangeSize 0 ((2 * n : Nat) : Int) 2 = (n : Int) := by
    show (if (2 : Int) > 0 then (if (0 : Int) < ((2 * n : Nat) : Int) then ((((2 * n : Nat) : Int) - 0 - 1) / 2 + 1) else 0) else _) = (n : Int)
    rw [if_pos (by decide)]
    split <;> omega
  refine ⟨by decide, by decide, ?_, r⟩
  · have f : ∀ x : Int, 0 ≤ x → x ≤ 200000 → Builtin.Range.rangeFitsLong x = true := fun x h0 h1 => by
      show (decide _ && decide _) = true
      rw [Bool.and_eq_true, decide_eq_true_eq, decide_eq_true_eq]
      omega
    show (_ && _ && _ && Builtin.Range.rangeFitsLong (Builtin.Range.rangeSize 0 ((2 * n : Nat) : Int) 2) && (_ || (if (2 : Int) > 0 then Builtin.Range.rangeFitsLong (((2 * n : Nat) : Int) + (2 - 1)) else _))) = true
    rw [r, if_pos (by decide), f 0 (by decide) (by decide), f _ (by omega) (by omega), f 2 (by decide) (by decide), f _ (by omega) (by omega), f _ (by omega) (by omega), Bool.or_true]
    rfl
/-- for place in range(0, 2 * n, 2) -/
theorem s_forC2 {σ : L2.St} {H : Hp} {D : Ends} {tu : TS} {ta : TA} {j n : Nat} (h : EvA ta σ H [vn 0, vn (2 * n), vn 2]) (hn : n ≤ 50000) (Pv : Nat → L2.St → Hp → Prop) (h0 : ∀ H1, Evl.Ex H H1 → Pv 0 σ H1)
    (hs : ∀ (i : Nat) σ' H', i < n → Pv i σ' H' → tu { D with nx := Pv (i + 1), ct := Pv (i + 1), bk := D.nx } (σ'.set j (some (vn (2 * i)))) H') (hd : ∀ σ' H', Pv n σ' H' → D.nx σ' H') : tFor (iRng3 ta) (gName j) tu D σ H :=
  h H (Evl.Ex.refl H) _ fun H1 e => ⟨0, ((2 * n : Nat) : Int), 2, n, rfl, rg2 hn, for_rangeC (lo := 0) (c := 2) (n := n) Pv (h0 H1 e) (fun i σ' H' hi p => by
    have e0 : (0 : Int) + (i : Nat) * 2 = ((2 * i : Nat) : Int) := by omega
    show tu { D with nx := Pv (i + 1), ct := Pv (i + 1), bk := D.nx } (σ'.set j (some (.int ((0 : Int) + (i : Nat) * 2)))) H'
    rw [e0]
    exact hs i σ' H' hi p) hd⟩
theorem q_forC2 {σ : L2.St} {H : Hp} {D : Ends} {tu tz : TS} {ta : TA} {j n : Nat} (h : EvA ta σ H [vn 0, vn (2 * n), vn 2]) (hn : n ≤ 50000) (Pv : Nat → L2.St → Hp → Prop) (h0 : ∀ H1, Evl.Ex H H1 → Pv 0 σ H1)
    (hs : ∀ (i : Nat) σ' H', i < n → Pv i σ' H' → tu { D with nx := Pv (i + 1), ct := Pv (i + 1), bk := tz D } (σ'.set j (some (vn (2 * i)))) H') (hd : ∀ σ' H', Pv n σ' H' → tz D σ' H') : tSeq (tFor (iRng3 ta) (gName j) tu) tz D σ H :=
  s_forC2 (D := { D with nx := tz D }) h hn Pv h0 hs hd
end Kx

-- KNews2
namespace Kx
open PySem PySem.Spec PyProof.Rows L2 Evl
open CdKeys (Policy over taken bit joined)
section
variable {P : Program} {w : World} {K : PySem.W.Frag} {mg : Str → Option Value} {base : Heap} {CBoard CNumberedLine CStrokes CNews CPart CPlainLine CHall : Addr}
/-! ### changes_in -/
def spChangesIn (K : PySem.W.Frag) : Sp := fun vs H Q _ => ∃ (a d : Addr) (ns : List Nat) (l : List Evt) (h b n : Nat) (u : Ups), vs = [.ref a, vn h, .ref d, vn b] ∧ SqL K H a (vns ns) ∧ KeysCalls.eventsIn ns = some l ∧ UpsAt H d u n ∧ l.length ≤ 8000 ∧ n ≤ 60000 ∧ (∀ e ∈ l, e.key ≤ 1000) ∧
  ∀ (H' : Hp) (t c d' : Addr) (as : List Addr), Evl.Ex H H' → H' t = some (.tup [.ref c, vn (chIn b h u l).2.1, .ref d']) → ChAt H' c (chIn b h u l).1 as → UpsAt H' d' (chIn b h u l).2.2 (n + l.length) → Q (.ref t) H'
theorem scChangesIn : FnScope ["events", "pressed", "last_ups", "bounce", "changes", "place", "tick", "key", "down", "too_soon"] ["events", "pressed", "last_ups", "bounce"] (defScope tChangesIn) := ⟨rfl, rfl, rfl, by decide +kernel, rfl, by decide +kernel, by decide +kernel⟩
theorem tcs_upd {H : Hp} {p : Addr} {o : HO} {as : List Addr} {r : List Tc} (h : TcsAt H as r) (n : ∀ xs, H p ≠ some (.tup xs)) : TcsAt (upd H p o) as r := h.fr (S := [p]) (Fr.upd (by simp)) fun s hs => by
  rw [List.mem_singleton] at hs
  subst hs
  exact n
theorem ok_changes_in {f : Addr} {fd : FuncData} (D : Raw K mg "changes_in" tChangesIn f fd) (T : Tx K mg CBoard CNumberedLine CStrokes CNews CPart CPlainLine CHall) : Ok P w K mg base 1 "changes_in" ["events", "pressed", "last_ups", "bounce"] (spChangesIn K) f fd := by
  refine ⟨D.fn.ok scChangesIn (fun vs H Q E h => ?_) (fun cdv A outer s H vs Q E hr h => ⟨_,
    (pss_cons (ps_set (i := 4) scChangesIn.nd rfl (Or.inl rfl) (pe_lst pa_nil))
      (pss_cons (ps_set (i := 2) scChangesIn.nd rfl (Or.inl rfl) (pe_callTy call_dictD (by rfl) T.b_dict (by decide +kernel) (pa_cons (pv 2) pa_nil)))
      (pss_cons (ps_for PassesOwn.never rfl (pi_range3 (by rfl) T.b_range (pa_cons pe_n (pa_cons (pe_callB call_len_seq (by rfl) T.b_len PySem.boot_len (pa_cons (pv 0) pa_nil)) (pa_cons pe_n pa_nil)))) (pg_name (i := 5) scChangesIn.nd rfl (Or.inl rfl)) (pss_cons (ps_set (i := 6) scChangesIn.nd rfl (Or.inl rfl) (pe_ix ix_list (pv 0) (pv 5) (fun _ _ => rfl)))
      (pss_cons (ps_set (i := 7) scChangesIn.nd rfl (Or.inl rfl) (pe_op on_div (pe_ix ix_list (pv 0) (pe_op on_add (pv 5) pe_n) (fun _ _ => rfl)) pe_n))
      (pss_cons (ps_set (i := 8) scChangesIn.nd rfl (Or.inl rfl) (pe_op on_mod (pe_ix ix_list (pv 0) (pe_op on_add (pv 5) pe_n) (fun _ _ => rfl)) pe_n))
      (pss_cons (ps_if (pt_cmpR on_eq (pe_op on_and (pe_op on_shr (pv 1) (pv 7)) pe_n) (pv 8) (nomark _)) (pss_one ps_continue) pss_nil)
      (pss_cons (ps_set (i := 1) scChangesIn.nd rfl (Or.inl rfl) (pe_op on_xor (pv 1) (pe_op on_shl pe_n (pv 7))))
      (pss_cons (ps_set (i := 9) scChangesIn.nd rfl (Or.inl rfl) (pe_and (pe_cmpR on_eq (pv 8) pe_n (nomark _)) (pe_and (pe_cmp (pc_din (hu_of hr) (pv 7) (pv 2)) rfl) (pe_one (pe_cmpR op_lt (pe_op op_sub (pv 6) (pe_dget (hu_of hr) (pv 2) (pv 7) (fun _ _ => rfl))) (pv 3) (nomark _))))))
      (pss_cons (ps_expr (pe_bm PySem.F.plainAttrs_list PySem.F.slot_list_append PySem.F.type_list_append mt_append (pv 4) (pa_cons (pe_tup (pa_cons (pv 6) (pa_cons (pv 7) (pa_cons (pv 8) (pa_cons (pv 9) pa_nil))))) pa_nil)))
      (pss_one (ps_if (pt_cmpR on_eq (pv 8) pe_n (nomark _)) (pss_one (ps_dput (hu_of hr) (pv 2) (pv 7) (pv 6) rfl)) pss_nil))))))))))
      (pss_one (ps_ret (pe_tup (pa_cons (pv 4) (pa_cons (pv 1) (pa_cons (pv 2) pa_nil))))))))), ?_⟩), D.at_, D.fn.kp, D.fn.binds fun _ _ _ _ _ _ us hl => match us, hl with | [_, _, _, _], _ => rfl⟩
  · obtain ⟨a, d, ns, l, h, b, n, u, rfl, _⟩ := h
    rfl
  · obtain ⟨a, d, ns, l, h, b, n, u, rfl, hS, hE, hU, hl, hn, hkey, kQ⟩ := h
    have hlen : ns.length = 2 * l.length := evs_length hE
    refine q_asgL (el_lst ea_nil few) fun c H1 hc e1 h1 => ?_
    refine q_dcopy (ev_var rfl) (hU.ex e1) fun d' H2 hd' e2 hU2 => ?_
    have e12 := e1.trans e2
    have hd0 : H d' = none := fresh_back e1 hd'
    have cd : c ≠ d' := ne_of_none h1 hd'
    refine q_forC2 (n := l.length) (ea_cons ev_n (ea_cons (x := vn (2 * l.length)) (ev_is (ev_len (ev_var rfl) (ex_l e12 hS)) (by rw [vns_length, hlen])) (ea_cons ev_n ea_nil))) (by omega) (fun i σ H' => ∃ (v5 v6 v7 v8 v9 : Option V) (as : List Addr), σ = [some (.ref a), some (vn (chIn b h u (l.take i)).2.1), some (.ref d'), some (vn b), some (.ref c), v5, v6, v7, v8, v9] ∧
      Evl.Ex H H' ∧ ChAt H' c (chIn b h u (l.take i)).1 as ∧ UpsAt H' d' (chIn b h u (l.take i)).2.2 (n + i)) (fun H3 e3 => ⟨none, none, none, none, none, [], rfl, e12.trans e3, ⟨e3 _ _ (e2 _ _ h1), trivial⟩, hU2.ex e3⟩) ?_ ?_
    · rintro i σ H' hi ⟨v5, v6, v7, v8, v9, as, rfl, eH, ⟨hC, hT⟩, hU'⟩
      have hei : l[i]? = some l[i] := List.getElem?_eq_getElem hi
      generalize l[i] = e at hei
      obtain ⟨g1, kd, g2, g3, g4⟩ := evs_at hE hei
      have hk1 : e.key ≤ 1000 := hkey e (List.mem_iff_getElem?.mpr ⟨i, hei⟩)
      have snoc := chIn_snoc b e (l.take i) h u
      rw [← take_more hei] at snoc
      have cl := chIn_length b (l.take i) h u
      have tl : (l.take i).length = i := by rw [List.length_take]; omega
      generalize hz : chIn b h u (l.take i) = z at snoc hC hT hU' cl
      refine q_asg (ev_ixN (i := 2 * i) (ev_var rfl) (ev_var rfl) (ex_l eH hS) g1) fun H4 e4 => ?_
      refine q_asg (evN (n := kd) (m := 2) (ev_ixN (ev_var rfl) (evN (ev_var rfl) ev_n trivial) (ex_l (eH.trans e4) hS) g2) ev_n (by decide)) fun H5 e5 => ?_
      refine q_asg (evN (n := kd) (m := 2) (ev_ixN (ev_var rfl) (evN (ev_var rfl) ev_n trivial) (ex_l ((eH.trans e4).trans e5) hS) g2) ev_n (by decide)) fun H6 e6 => ?_
      have e46 := (e4.trans e5).trans e6
      rw [← g3]
      have dn : kd % 2 = if e.down = true then 1 else 0 := by
        rw [g4]
        by_cases c : kd % 2 = 1
        · rw [c]
          rfl
        · have : kd % 2 = 0 := by omega
          rw [this]
          rfl
      rw [dn]
      have bt : (z.2.1 / 2 ^ e.key &&& 1 = if e.down = true then 1 else 0) ↔ z.2.1.testBit e.key = e.down := by
        have q : (z.2.1 / 2 ^ e.key &&& 1) = if z.2.1.testBit e.key = true then 1 else 0 := by
          rw [← bit_test, Nat.and_one_is_mod]
          rcases Nat.mod_two_eq_zero_or_one (z.2.1 / 2 ^ e.key) with m | m <;> rw [m] <;> rfl
        rw [q]
        cases z.2.1.testBit e.key <;> cases e.down <;> simp
      refine q_when (etN (g := fun n m => decide (n = m)) (n := z.2.1 / 2 ^ e.key &&& 1) (m := if e.down = true then 1 else 0) (evN (evN (n := z.2.1) (m := e.key) (ev_var rfl) (ev_var rfl) trivial) ev_n trivial) (ev_var rfl) trivial) (fun hb H7 e7 => ?_) (fun hb H7 e7 => ?_)
      · have same := bt.mp (of_decide_eq_true hb)
        rw [if_pos same] at snoc
        refine ⟨some (vn (2 * i)), some (vn e.tick), some (vn e.key), some (vn (if e.down = true then 1 else 0)), v9, as, ?_, (eH.trans e46).trans e7, ?_, ?_⟩
        · rw [snoc]
          rfl
        · rw [snoc]
          exact ⟨e7 _ _ (e46 _ _ hC), hT.ex (e46.trans e7)⟩
        · rw [snoc]
          exact (hU'.ex (e46.trans e7)).le (by omega)
      · have turn : ¬ z.2.1.testBit e.key = e.down := fun q => of_decide_eq_false hb (bt.mpr q)
        rw [if_neg turn] at snoc
        have e47 := e46.trans e7
        refine q_asg (evN (n := z.2.1) (m := 2 ^ e.key) (ev_var rfl) (ev_bit (ev_var rfl) hk1) trivial) fun H8 e8 => ?_
        rw [← turnKey_xor turn]
        have hU8 := hU'.ex (e47.trans e8)
        have sn : (decide ((if e.down = true then 1 else 0) = 1) && ((z.2.2 e.key).isSome && (match z.2.2 e.key with
          | some t => decide (e.tick < t + b)
          | none => false))) = soon b z.2.2 e := by
          unfold soon
          cases e.down <;> cases z.2.2 e.key <;> rfl
        refine q_asg (v := .bl (soon b z.2.2 e)) (ev_is (ev_andV (evN (n := if e.down = true then 1 else 0) (m := 1) (ev_var rfl) ev_n trivial) fun _ => ev_andV (ev_din (ev_var rfl) (ev_var rfl) hU8) fun hin => ?_) (by rw [← sn])) fun H9 e9 => ?_
        · cases hu : z.2.2 e.key with
          | none =>
            rw [hu] at hin
            cases hin
          | some t =>
            refine ev_is (ev_op (x := .int ((e.tick : Int) - (t : Int))) (y := .int (b : Int)) (ev_op (x := vn e.tick) (y := vn t) (ev_var rfl) (ev_dget (ev_var rfl) (ev_var rfl) hU8 hu) rv_I0) (ev_var rfl) rv_I0) ?_
            show V.bl (decide ((e.tick : Int) - (t : Int) < (b : Int))) = V.bl (decide (e.tick < t + b))
            rw [dec_eq (q := e.tick < t + b) (by omega)]
        · have hC9 := e9 _ _ (e8 _ _ (e47 _ _ hC))
          refine q_appU hC9 (ev_var rfl) (eu_tup (ea_cons (ev_var rfl) (ea_cons (ev_var rfl) (ea_cons (ev_var rfl) (ea_cons (ev_var rfl) ea_nil)))) few) (by rw [refs_length, hT.length]; omega) fun p H10 hp e10 h10 => ?_
          have e410 := ((e47.trans e8).trans e9).trans e10
          have pc : p ≠ c := by
            rintro rfl
            rw [hC9] at hp
            cases hp
          have hT10 : TcsAt H10 (as ++ [p]) (z.1 ++ [(e, soon b z.2.2 e)]) := (hT.ex e410).snoc h10
          have hT11 : TcsAt (upd H10 c (.lst (refs as ++ [.ref p]))) (as ++ [p]) (z.1 ++ [(e, soon b z.2.2 e)]) := tcs_upd hT10 fun xs q => by
            rw [e10 _ _ hC9] at q
            cases q
          have hC11 : upd H10 c (.lst (refs as ++ [.ref p])) c = some (.lst (refs (as ++ [p]))) := by
            rw [refs_append]
            exact upd_same
          have eH11 : Evl.Ex H (upd H10 c (.lst (refs as ++ [.ref p]))) := (eH.trans e410).mut hc
          have hU11 : UpsAt (upd H10 c (.lst (refs as ++ [.ref p]))) d' z.2.2 (n + i) := (hU'.ex e410).fr (S := [c]) (Fr.upd (by simp)) (by simpa using cd.symm)
          generalize upd H10 c (.lst (refs as ++ [.ref p])) = H11 at hT11 hC11 eH11 hU11
          refine s_when (etN (g := fun n m => decide (n = m)) (n := if e.down = true then 1 else 0) (m := 0) (ev_var rfl) ev_n trivial) (fun hb2 H12 e12' => ?_) (fun hb2 H12 e12' => ?_)
          · have nd : ¬ e.down = true := by
              intro q
              rw [q] at hb2
              cases hb2
            have nu : nextUps z.2.2 e = upU z.2.2 e.key e.tick := if_neg nd
            rw [nu] at snoc
            refine s_dput (v := e.tick) (k := e.key) (ev_var rfl) (ev_var rfl) (ev_var rfl) (hU11.ex e12') (by omega) fun H13 o e13 hU13 => ?_
            have hC13 := e13 _ _ (e12' _ _ hC11)
            refine ⟨some (vn (2 * i)), some (vn e.tick), some (vn e.key), some (vn (if e.down = true then 1 else 0)), some (.bl (soon b z.2.2 e)), as ++ [p], ?_, ((eH11.trans e12').trans e13).mut hd0, ?_, ?_⟩
            · rw [snoc]
              rfl
            · rw [snoc]
              refine ⟨(upd_ne cd).trans hC13, tcs_upd (hT11.ex (e12'.trans e13)) fun xs q => ?_⟩
              obtain ⟨kvs, g, _⟩ := (hU11.ex (e12'.trans e13))
              rw [g] at q
              cases q
            · rw [snoc]
              exact hU13
          · have nd : e.down = true := by
              cases q : e.down
              · rw [q] at hb2
                cases hb2
              · rfl
            have nu : nextUps z.2.2 e = z.2.2 := if_pos nd
            rw [nu] at snoc
            refine ⟨some (vn (2 * i)), some (vn e.tick), some (vn e.key), some (vn (if e.down = true then 1 else 0)), some (.bl (soon b z.2.2 e)), as ++ [p], ?_, eH11.trans e12', ?_, ?_⟩
            · rw [snoc]
              rfl
            · rw [snoc]
              exact ⟨e12' _ _ hC11, hT11.ex e12'⟩
            · rw [snoc]
              exact (hU11.ex e12').le (by omega)
    · rintro σ H' ⟨v5, v6, v7, v8, v9, as, rfl, eH, hC, hU'⟩
      rw [List.take_length] at hC hU'
      refine s_retU (eu_tup (ea_cons (ev_var rfl) (ea_cons (ev_var rfl) (ea_cons (ev_var rfl) ea_nil))) few) fun t H4 ht e4 h4 => ?_
      rw [List.take_length] at h4
      exact kQ H4 t c d' as (eH.trans e4) h4 ⟨e4 _ _ hC.1, hC.2.ex e4⟩ (hU'.ex e4)
end
end Kx

-- KNews3
namespace Kx
open PySem PySem.Spec PyProof.Rows L2 Evl
open CdKeys (Policy over taken bit joined)

/-! ### fates: from the end, with a dict of the followers -/
/-- an up's follower is a down -/
def Ud : List Tc → Prop
  | [] => True
  | x :: r => (x.1.down = false → ∀ y, nextOf x.1.key r = some y → y.1.down = true) ∧ Ud r
theorem ud_tag (b : Nat) : ∀ (C : List Evt) (u : Ups) (g : Nat → Bool), Alt g C → Ud (tagC b u C)
  | [], _, _, _ => trivial
  | e :: r, u, g, ⟨a, al⟩ => by
    refine ⟨fun hd y hy => ?_, ud_tag b r _ _ al⟩
    have q := next_alt b e.key r (nextUps u e) _ y al hy
    rw [q.1, if_pos rfl]
    have hd' : e.down = false := hd
    rw [hd']
    rfl
theorem ud_drop : ∀ (i : Nat) (T : List Tc), Ud T → Ud (T.drop i)
  | 0, _, h => h
  | _ + 1, [], h => h
  | i + 1, _ :: r, ⟨_, h⟩ => ud_drop i r h
/-- what the dict of followers holds behind a row -/
def fol (b now : Nat) : List Tc → Ups
  | [] => noUps
  | x :: r => upU (fol b now r) x.1.key (fateD b now r x)
theorem fol_next (b now k : Nat) : ∀ (T : List Tc), Ud T → (fol b now T k = none ↔ nextOf k T = none) ∧ ∀ y, nextOf k T = some y → y.1.down = true → fol b now T k = some (if y.2 = true then 1 else 0)
  | [], _ => ⟨⟨fun _ => rfl, fun _ => rfl⟩, fun y h => by cases h⟩
  | x :: r, ⟨_, h⟩ => by
    have ih := fol_next b now k r h
    by_cases c : x.1.key = k
    · have e1 : nextOf k (x :: r) = some x := nextOf_cons_eq c
      have e2 : fol b now (x :: r) k = some (fateD b now r x) := by
        show upU (fol b now r) x.1.key (fateD b now r x) k = _
        unfold upU
        rw [if_pos c.symm]
      rw [e1, e2]
      refine ⟨⟨fun z => (by cases z), fun z => (by cases z)⟩, fun y hy hd => ?_⟩
      have := Option.some.inj hy
      subst this
      unfold fateD
      rw [if_pos hd]
    · have e1 : nextOf k (x :: r) = nextOf k r := nextOf_cons_ne c
      have e2 : fol b now (x :: r) k = fol b now r k := by
        show upU (fol b now r) x.1.key (fateD b now r x) k = _
        unfold upU
        rw [if_neg (fun z => c z.symm)]
      rw [e1, e2]
      exact ih
/-- the program's reckoning of one fate -/
theorem fate_prog (b now : Nat) {x : Tc} {r : List Tc} (h : Ud (x :: r)) : fateD b now r x = if x.1.down = true then (if x.2 = true then 1 else 0) else match fol b now r x.1.key with
    | some f => f
    | none => if now < x.1.tick + b then 2 else 0 := by
  unfold fateD
  by_cases d : x.1.down = true
  · rw [if_pos d, if_pos d]
  · rw [if_neg d, if_neg d]
    have df : x.1.down = false := by
      cases q : x.1.down
      · rfl
      · exact absurd q d
    have f := fol_next b now x.1.key r h.2
    cases hn : nextOf x.1.key r with
    | none =>
      have := f.1.mpr hn
      rw [this]
    | some y =>
      have := f.2 y hn (h.1 df y hn)
      rw [this]
section
variable {P : Program} {w : World} {K : PySem.W.Frag} {mg : Str → Option Value} {base : Heap} {CBoard CNumberedLine CStrokes CNews CPart CPlainLine CHall : Addr}
def spFatesOf (K : PySem.W.Frag) : Sp := fun vs H Q _ => ∃ (a : Addr) (T : List Tc) (as : List Addr) (now b : Nat), vs = [.ref a, vn now, vn b] ∧ ChAt H a T as ∧ Ud T ∧ T.length ≤ 20000 ∧ RetL (vns (fates b now T)) H Q
theorem scFatesOf : FnScope ["changes", "now", "bounce", "fates", "followers", "tick", "key", "down", "too_soon", "fate"] ["changes", "now", "bounce"] (defScope tFatesOf) := ⟨rfl, rfl, rfl, by decide +kernel, rfl, by decide +kernel, by decide +kernel⟩
theorem drop_last {α : Type} {l : List α} {i : Nat} {x : α} (hi : i < l.length) (h : l[l.length - 1 - i]? = some x) : l.drop (l.length - (i + 1)) = x :: l.drop (l.length - i) := by
  have e : l.length - (i + 1) = l.length - 1 - i := by omega
  rw [e, List.drop_eq_getElem_cons (by omega)]
  congr 1
  · rw [List.getElem?_eq_getElem (by omega)] at h
    exact Option.some.inj h
  · congr 1
    omega
theorem s_rev {l : Addr} {xs : List V} {σ : L2.St} {H : Hp} {D : Ends} {ta : TE} (hl : H l = some (.lst xs)) (ha : Ev ta σ H (.ref l)) (k : ∀ H1, Evl.Ex H H1 → D.nx σ (upd H1 l (.lst xs.reverse))) : tDrop (tBM0 K "list" rReverse ta) D σ H :=
  ha H (Evl.Ex.refl H) _ fun H1 e1 => ⟨Or.inl ⟨rfl, xs, sq_of (e1 l _ hl)⟩, l, xs, rfl, rfl, e1 _ _ hl, k H1 e1⟩
theorem q_rev {l : Addr} {xs : List V} {σ : L2.St} {H : Hp} {D : Ends} {tz : TS} {ta : TE} (hl : H l = some (.lst xs)) (ha : Ev ta σ H (.ref l)) (k : ∀ H1, Evl.Ex H H1 → tz D σ (upd H1 l (.lst xs.reverse))) : tSeq (tDrop (tBM0 K "list" rReverse ta)) tz D σ H :=
  s_rev (D := { D with nx := tz D }) hl ha k
theorem ok_fates_of {f : Addr} {fd : FuncData} (D : Raw K mg "fates_of" tFatesOf f fd) (T : Tx K mg CBoard CNumberedLine CStrokes CNews CPart CPlainLine CHall) : Ok P w K mg base 1 "fates_of" ["changes", "now", "bounce"] (spFatesOf K) f fd := by
  refine ⟨D.fn.ok scFatesOf (fun vs H Q E h => ?_) (fun cdv A outer s H vs Q E hr h => ⟨_,
    (pss_cons (ps_set (i := 3) scFatesOf.nd rfl (Or.inl rfl) (pe_lst pa_nil))
      (pss_cons (ps_set (i := 4) scFatesOf.nd rfl (Or.inl rfl) pe_dnewK)
      (pss_cons (ps_for PassesOwn.never rfl (pi_reversed (by rfl) T.b_reversed (pa_cons (pv 0) pa_nil)) (pg_tup rfl (pgs_cons (pg_name (i := 5) scFatesOf.nd rfl (Or.inl rfl)) (pgs_cons (pg_name (i := 6) scFatesOf.nd rfl (Or.inl rfl)) (pgs_cons (pg_name (i := 7) scFatesOf.nd rfl (Or.inl rfl)) (pgs_cons (pg_name (i := 8) scFatesOf.nd rfl (Or.inl rfl)) pgs_nil))))) (pss_cons (ps_if (pt_cmpR on_eq (pv 7) pe_n (nomark _)) (pss_one (ps_set (i := 9) scFatesOf.nd rfl (Or.inl rfl) (pe_ifExp (pt_val (pv 8)) (pe_gi T.g_BOUNCED) (pe_gi T.g_BELIEVED)))) (pss_one (ps_if (pt_cmp (pc_din (hu_of hr) (pv 6) (pv 4))) (pss_one (ps_set (i := 9) scFatesOf.nd rfl (Or.inl rfl) (pe_dget (hu_of hr) (pv 4) (pv 6) (fun _ _ => rfl)))) (pss_one (ps_set (i := 9) scFatesOf.nd rfl (Or.inl rfl) (pe_ifExp (pt_cmpR op_lt (pe_op op_sub (pv 1) (pv 5)) (pv 2) (nomark _)) (pe_gi T.g_UNSURE) (pe_gi T.g_BELIEVED)))))))
      (pss_cons (ps_dput (hu_of hr) (pv 4) (pv 6) (pv 9) rfl)
      (pss_one (ps_expr (pe_bm PySem.F.plainAttrs_list PySem.F.slot_list_append PySem.F.type_list_append mt_append (pv 3) (pa_cons (pv 9) pa_nil)))))))
      (pss_cons (ps_expr (pe_bm0 PySem.F.plainAttrs_list PySem.F.slot_list_reverse PySem.F.type_list_reverse mt_reverse (pv 3)))
      (pss_one (ps_ret (pv 3))))))), ?_⟩), D.at_, D.fn.kp, D.fn.binds fun _ _ _ _ _ _ us hl => match us, hl with | [_, _, _], _ => rfl⟩
  · obtain ⟨a, T, as, now, b, rfl, _⟩ := h
    rfl
  · obtain ⟨a, TT, as, now, b, rfl, ⟨hA, hT⟩, hUd, hl, kQ⟩ := h
    have tl := hT.length
    refine q_asgL (el_lst ea_nil few) fun c H1 hc e1 h1 => ?_
    refine q_dnew fun d H2 hd e2 hU => ?_
    have hd0 := fresh_back e1 hd
    have cd : c ≠ d := ne_of_none h1 hd
    have e12 := e1.trans e2
    refine (ev_var (i := 0) (v := .ref a) rfl) H2 (Evl.Ex.refl _) _ fun H3 e3 => ?_
    refine ⟨a, refs as, rfl, sq_of (e3 _ _ (e12 _ _ hA)), ?_⟩
    refine for_it walk_rev (fun i σ H' => ∃ (v5 v6 v7 v8 v9 : Option V), σ = [some (.ref a), some (vn now), some (vn b), some (.ref c), some (.ref d), v5, v6, v7, v8, v9] ∧ Evl.Ex H H' ∧ H' c = some (.lst (vns (fates b now (TT.drop (TT.length - i))).reverse)) ∧ UpsAt H' d (fol b now (TT.drop (TT.length - i))) i) ?_ ?_ ?_ ?_
    · refine ⟨none, none, none, none, none, rfl, e12.trans e3, ?_, ?_⟩
      · rw [Nat.sub_zero, List.drop_length]
        exact e3 _ _ (e2 _ _ h1)
      · rw [Nat.sub_zero, List.drop_length]
        exact hU.ex e3
    · rintro i σ H' _ ⟨_, _, _, _, _, _, eH, _⟩
      exact sq_of (eH _ _ hA)
    · rintro i x σ H' H'' hi ⟨v5, v6, v7, v8, v9, rfl, eH, hC, hU'⟩ ⟨rfl, hx⟩
      rw [refs_length, tl] at hi hx
      have hlt : TT.length - 1 - i < TT.length := by omega
      have hgx : TT[TT.length - 1 - i]? = some TT[TT.length - 1 - i] := List.getElem?_eq_getElem hlt
      generalize TT[TT.length - 1 - i] = y at hgx
      obtain ⟨p, hp, hpt⟩ := hT.at hgx
      have xp : x = .ref p := by
        unfold refs at hx
        rw [List.getElem?_map, hp] at hx
        exact (Option.some.inj hx).symm
      subst xp
      have dl := drop_last hi hgx
      refine ⟨p, tcV y, rfl, st_of (eH _ _ hpt), rfl, _, _, rfl, _, _, rfl, _, _, rfl, _, _, rfl, rfl, ?_⟩
      have hUy : Ud (y :: TT.drop (TT.length - i)) := by
        rw [← dl]
        exact ud_drop _ _ hUd
      have fp := fate_prog b now hUy
      rw [dl]
      generalize hR : TT.drop (TT.length - i) = R at fp hC hU'
      have rl : R.length = i := by rw [← hR, List.length_drop]; omega
      -- the fate, then what follows
      have go : ∀ (D' : Ends) (H5 : Hp), Evl.Ex H'' H5 → (∀ H9, Evl.Ex H H9 → H9 c = some (.lst (vns (fateD b now R y :: fates b now R).reverse)) → UpsAt H9 d (upU (fol b now R) y.1.key (fateD b now R y)) (i + 1) →
          D'.nx [some (.ref a), some (vn now), some (vn b), some (.ref c), some (.ref d), some (vn y.1.tick), some (vn y.1.key), some (vn (if y.1.down = true then 1 else 0)), some (.bl y.2), some (vn (fateD b now R y))] H9) →
          tSeq (sDPut (tVar 4) (tVar 6) (tVar 9)) (tDrop (tBM K "list" rAppend (tVar 3) (tCons (tVar 9) tNil))) D' [some (.ref a), some (vn now), some (vn b), some (.ref c), some (.ref d), some (vn y.1.tick), some (vn y.1.key), some (vn (if y.1.down = true then 1 else 0)), some (.bl y.2), some (vn (fateD b now R y))] H5 := fun D' H5 e5 fin => by
        refine q_dput (v := fateD b now R y) (k := y.1.key) (ev_var rfl) (ev_var rfl) (ev_var rfl) (hU'.ex e5) (by omega) fun H6 o e6 hU6 => ?_
        have hC6 : upd H6 d o c = some (.lst (vns (fates b now R).reverse)) := (upd_ne cd).trans (e6 _ _ (e5 _ _ hC))
        refine s_app hC6 (ev_var rfl) (ev_var rfl) (by rw [vns_length, List.length_reverse, fates_length]; omega) fun H7 e7 => ?_
        refine fin _ (((((eH.trans e5).trans e6).mut hd0).trans e7).mut hc) ?_ ?_
        · refine upd_same.trans ?_
          rw [List.reverse_cons, vns_append]
          rfl
        · exact (hU6.ex e7).fr (S := [c]) (Fr.upd (by simp)) (by simpa using cd.symm)
      by_cases hd : y.1.down = true
      · rw [if_pos hd] at fp
        refine q_if (etN (g := fun n m => decide (n = m)) (n := if y.1.down = true then 1 else 0) (m := 1) (ev_var rfl) ev_n trivial) (fun _ H5 e5 => ?_) (fun hb _ _ => by rw [if_pos hd] at hb; cases hb)
        refine s_asg (v := vn (fateD b now R y)) (ev_is (v := vn (if y.2 = true then 1 else 0)) (ev_if (et_B (b := y.2) (ev_var rfl)) (fun h2 => ev_is ev_c (by rw [h2]; rfl)) fun h2 => ev_is ev_c (by rw [h2]; rfl)) (by rw [fp])) fun H6 e6 => ?_
        exact go _ H6 (e5.trans e6) fun H9 g1 g2 g3 => ⟨_, _, _, _, _, rfl, g1, g2, g3⟩
      · rw [if_neg hd] at fp
        refine q_if (etN (g := fun n m => decide (n = m)) (n := if y.1.down = true then 1 else 0) (m := 1) (ev_var rfl) ev_n trivial) (fun hb _ _ => by rw [if_neg hd] at hb; cases hb) (fun _ H5 e5 => ?_)
        refine s_if (et_test (ev_din (k := y.1.key) (ev_var rfl) (ev_var rfl) (hU'.ex e5))) (fun hb H6 e6 => ?_) (fun hb H6 e6 => ?_)
        · cases hf : fol b now R y.1.key with
          | none =>
            rw [hf] at hb
            cases hb
          | some v =>
            rw [hf] at fp
            dsimp only at fp
            refine s_asg (v := vn (fateD b now R y)) (ev_is (ev_dget (ev_var rfl) (ev_var rfl) (hU'.ex (e5.trans e6)) hf) (by rw [fp])) fun H7 e7 => ?_
            exact go _ H7 ((e5.trans e6).trans e7) fun H9 g1 g2 g3 => ⟨_, _, _, _, _, rfl, g1, g2, g3⟩
        · cases hf : fol b now R y.1.key with
          | some v =>
            rw [hf] at hb
            cases hb
          | none =>
            rw [hf] at fp
            dsimp only at fp
            have tst : (decide ((now : Int) - (y.1.tick : Int) < (b : Int))) = decide (now < y.1.tick + b) := dec_eq (by omega)
            refine s_asg (v := vn (fateD b now R y)) (ev_is (v := vn (if now < y.1.tick + b then 2 else 0)) (ev_if (b := decide (now < y.1.tick + b)) (et_is (et_test (b := decide ((now : Int) - (y.1.tick : Int) < (b : Int))) (ev_op (x := .int ((now : Int) - (y.1.tick : Int))) (y := .int (b : Int)) (ev_op (x := vn now) (y := vn y.1.tick) (ev_var rfl) (ev_var rfl) rv_I0) (ev_var rfl) rv_I0)) tst) (fun h2 => ev_is ev_c (by rw [if_pos (of_decide_eq_true h2)])) fun h2 => ev_is ev_c (by rw [if_neg (of_decide_eq_false h2)])) (by rw [fp])) fun H7 e7 => ?_
            exact go _ H7 ((e5.trans e6).trans e7) fun H9 g1 g2 g3 => ⟨_, _, _, _, _, rfl, g1, g2, g3⟩
    · rintro σ H' ⟨v5, v6, v7, v8, v9, rfl, eH, hC, hU'⟩
      rw [refs_length, tl, Nat.sub_self, List.drop_zero] at hC
      refine q_rev hC (ev_var rfl) fun H4 e4 => s_ret (ev_var rfl) fun H5 e5 => ?_
      refine kQ c H5 hc (((eH.trans e4).mut hc).trans e5) (e5 _ _ (upd_same.trans ?_))
      unfold vns
      rw [List.map_reverse, List.reverse_reverse]
end
end Kx

-- KNews4
namespace Kx
open PySem PySem.Spec PyProof.Rows L2 Evl
open CdKeys (Policy over taken bit joined)

/-! ### what settling comes to, one change more -/
theorem pruns_snoc (p : Policy) (e : Evt) : ∀ (B : List Evt) (r : Rn), pruns p r (B ++ [e]) = ((pruns p r B).1 ++ (ptaken p (pruns p r B).2 e).1, (ptaken p (pruns p r B).2 e).2)
  | [], r => by
    show pre (ptaken p r e).1 ([], (ptaken p r e).2) = _
    unfold pre
    rw [List.append_nil]
    rfl
  | a :: t, r => by
    show pre (ptaken p r a).1 (pruns p (ptaken p r a).2 (t ++ [e])) = _
    rw [pruns_snoc p e t]
    show ((ptaken p r a).1 ++ (_ ++ _), _) = ((ptaken p r a).1 ++ (pruns p (ptaken p r a).2 t).1 ++ _, _)
    rw [List.append_assoc]
    rfl
theorem over_len (p : Policy) (r : Rn) (t : Nat) : (over p r t).1.length ≤ 1 := by
  unfold CdKeys.over
  split
  · exact Nat.le_refl _
  · exact Nat.zero_le _
theorem ptaken_len (p : Policy) (r : Rn) (e : Evt) : (ptaken p r e).1.length ≤ 1 := by
  unfold ptaken
  by_cases d : e.down = true
  · rw [if_pos d, taken_down p r e d]
    exact over_len p r e.tick
  · rw [if_neg d]
    unfold plift
    split
    · exact Nat.le_refl _
    · split
      · exact Nat.le_refl _
      · exact Nat.zero_le _
theorem pruns_len (p : Policy) : ∀ (B : List Evt) (r : Rn), (pruns p r B).1.length ≤ B.length
  | [], _ => Nat.le_refl _
  | a :: t, r => by
    show ((ptaken p r a).1 ++ (pruns p (ptaken p r a).2 t).1).length ≤ t.length + 1
    rw [List.length_append]
    have := ptaken_len p r a
    have := pruns_len p t (ptaken p r a).2
    omega
theorem believed_len : ∀ (T : List Tc) (F : List Nat), (believed T F).length ≤ T.length
  | [], _ => Nat.zero_le _
  | _ :: _, [] => Nat.zero_le _
  | x :: r, f :: s => by
    show (if f = 0 then x.1 :: believed r s else believed r s).length ≤ r.length + 1
    have := believed_len r s
    split
    · exact Nat.succ_le_succ this
    · omega
theorem believed_snoc : ∀ {T : List Tc} {F : List Nat} {i : Nat} {x : Tc} {f : Nat}, T[i]? = some x → F[i]? = some f → believed (T.take (i + 1)) F = believed (T.take i) F ++ (if f = 0 then [x.1] else [])
  | [], _, _, _, _, h, _ => by simp at h
  | _ :: _, [], _, _, _, _, h => by simp at h
  | a :: r, g :: s, 0, x, f, h, h2 => by
    have e1 := Option.some.inj h
    have e2 := Option.some.inj h2
    subst e1 e2
    show (if g = 0 then a.1 :: believed [] s else believed [] s) = [] ++ _
    rw [List.nil_append]
    rfl
  | a :: r, g :: s, i + 1, x, f, h, h2 => by
    have ih := believed_snoc (T := r) (F := s) (i := i) (x := x) (f := f) h h2
    show (if g = 0 then a.1 :: believed (r.take (i + 1)) s else believed (r.take (i + 1)) s) = (if g = 0 then a.1 :: believed (r.take i) s else believed (r.take i) s) ++ _
    rw [ih]
    split <;> rfl

/-- a loop over zip of two lists -/
theorem s_forZip {K : PySem.W.Frag} {σ : L2.St} {H : Hp} {D : Ends} {tu : TS} {ta : TA} {g : TG} {a b : Addr} {xs ys : List V} {n : Nat} (h : EvA ta σ H [.ref a, .ref b]) (hx : SqL K H a xs) (hy : SqL K H b ys) (hn : n = min xs.length ys.length) (Pv : Nat → L2.St → Hp → Prop) (h0 : ∀ H1, Evl.Ex H H1 → Pv 0 σ H1)
    (hG : ∀ i σ H, i ≤ n → Pv i σ H → SqL K H a xs ∧ SqL K H b ys)
    (hs : ∀ i x σ H H', i < n → Pv i σ H → YPair (fun i => xs[i]?) (fun i => ys[i]?) i H x H' → g x σ H' fun σ2 H2 => tu { D with nx := Pv (i + 1), ct := Pv (i + 1), bk := D.nx } σ2 H2) (hd : ∀ σ H, Pv n σ H → D.nx σ H) : tFor (iZip K ta) g tu D σ H :=
  h H (Evl.Ex.refl H) _ fun H1 e => ⟨a, b, xs, ys, rfl, ex_l e hx, ex_l e hy, for_it (walk_zip hn) Pv (h0 H1 e) hG hs hd⟩

/-! ### News: how it lies in the heap -/
def nF (b : Nat) (h : Nat) (uA wA sA : Addr) : List (Str × V) := [("bounce", vn b), ("pressed", vn h), ("last_ups", .ref uA), ("waiting", .ref wA), ("strokes", .ref sA)]
section
variable {P : Program} {w : World} {K : PySem.W.Frag} {mg : Str → Option Value} {base : Heap} {CBoard CNumberedLine CStrokes CNews CPart CPlainLine CHall : Addr}
def spSettle (CN CS : Addr) : Sp := fun vs H Q _ => ∃ (a dx c f uA wA sA sdx mA : Addr) (b h : Nat) (p : Policy) (r : Rn) (made : List Strk) (T : List Tc) (as : List Addr) (F : List Nat), vs = [.ref a, .ref c, .ref f] ∧
  H a = some (.ins CN dx (nF b h uA wA sA)) ∧ ChAt H c T as ∧ H f = some (.lst (vns F)) ∧ T.length ≤ F.length ∧ StrokesAt CS H sA p r made sdx mA ∧ c ≠ mA ∧ f ≠ mA ∧ a ≠ sA ∧ made.length + T.length ≤ 30000 ∧ (∀ x ∈ T, x.1.key ≤ 1000) ∧
  StrDoes CS H sA p (pruns p r (believed T F)).2 (made ++ (pruns p r (believed T F)).1) sdx mA Q
theorem scNewsSettle : FnScope ["self", "changes", "fates", "change", "fate", "tick", "key", "down", "too_soon"] ["self", "changes", "fates"] (defScope tNewsSettle) := ⟨rfl, rfl, rfl, by decide +kernel, rfl, by decide +kernel, by decide +kernel⟩
theorem ok_News_settle {f f1 f2 : Addr} {fd fd1 fd2 : FuncData} (D : RawM K CNews "settle" "News.settle" tNewsSettle f fd) (T : Tx K mg CBoard CNumberedLine CStrokes CNews CPart CPlainLine CHall)
    (G_Strokes_press : OkM P w K mg base 3 CStrokes "press" ["self", "key", "tick"] (spPress CStrokes) f1 fd1) (G_Strokes_lift : OkM P w K mg base 2 CStrokes "lift" ["self", "key", "tick"] (spLift CStrokes) f2 fd2) :
    OkM P w K mg base 4 CNews "settle" ["self", "changes", "fates"] (spSettle CNews CStrokes) f fd := by
  refine ⟨D.fn.ok scNewsSettle (fun vs H Q E h => ?_) (fun cdv A outer s H vs Q E hr h => ⟨_,
    (pss_one (ps_for PassesOwn.never rfl (pi_zip (by rfl) T.b_zip (pa_cons (pv 1) (pa_cons (pv 2) pa_nil))) (pg_tup rfl (pgs_cons (pg_name (i := 3) scNewsSettle.nd rfl (Or.inl rfl)) (pgs_cons (pg_name (i := 4) scNewsSettle.nd rfl (Or.inl rfl)) pgs_nil))) (pss_cons (ps_asg (pv 3) (pg_tup rfl (pgs_cons (pg_name (i := 5) scNewsSettle.nd rfl (Or.inl rfl)) (pgs_cons (pg_name (i := 6) scNewsSettle.nd rfl (Or.inl rfl)) (pgs_cons (pg_name (i := 7) scNewsSettle.nd rfl (Or.inl rfl)) (pgs_cons (pg_name (i := 8) scNewsSettle.nd rfl (Or.inl rfl)) pgs_nil))))))
      (pss_one (ps_if (PW.pt (pw_and (pt_cmpR on_eq (pv 4) (pe_gi T.g_BELIEVED) (nomark _)) (pw_and1 (pt_cmpR on_eq (pv 7) pe_n (nomark _))))) (pss_one (ps_expr (pe_ownM G_Strokes_press T.c_Strokes hr (pe_fld (pv 0) rfl) (pa_cons (pv 6) (pa_cons (pv 5) pa_nil))))) (pss_one (ps_if (pt_cmpR on_eq (pv 4) (pe_gi T.g_BELIEVED) (nomark _)) (pss_one (ps_expr (pe_ownM G_Strokes_lift T.c_Strokes hr (pe_fld (pv 0) rfl) (pa_cons (pv 6) (pa_cons (pv 5) pa_nil))))) pss_nil))))))), ?_⟩), D.at_, D.fn.binds fun _ _ _ _ _ _ us hl => match us, hl with | [_, _, _], _ => rfl⟩
  · obtain ⟨a, dx, c, f, uA, wA, sA, sdx, mA, b, h, p, r, made, T, as, F, rfl, _⟩ := h
    rfl
  · obtain ⟨a, dx, c, ff, uA, wA, sA, sdx, mA, b, h, p, r, made, TT, as, F, rfl, hA, ⟨hC, hT⟩, hF, hlen, hS, cm, fm, asA, hb, hkey, kQ⟩ := h
    have tl := hT.length
    have c_sA : c ≠ sA := ne_lst_ins hC hS.ob
    have f_sA : ff ≠ sA := ne_lst_ins hF hS.ob
    have a_mA : a ≠ mA := (ne_lst_ins hS.ls hA).symm
    refine s_forZip (n := TT.length) (ea_cons (ev_var (v := .ref c) rfl) (ea_cons (ev_var (v := .ref ff) rfl) ea_nil)) (sq_of hC) (sq_of hF) (by rw [refs_length, vns_length, tl]; omega) (fun i σ H' => ∃ (v3 v4 v5 v6 v7 v8 : Option V), σ = [some (.ref a), some (.ref c), some (.ref ff), v3, v4, v5, v6, v7, v8] ∧ Fr [sA, mA] H H' ∧
      StrokesAt CStrokes H' sA p (pruns p r (believed (TT.take i) F)).2 (made ++ (pruns p r (believed (TT.take i) F)).1) sdx mA) ?_ ?_ ?_ ?_
    · exact fun H1 e1 => ⟨none, none, none, none, none, none, rfl, Fr.of e1, by
        show StrokesAt CStrokes H1 sA p r (made ++ []) sdx mA
        rw [List.append_nil]
        exact hS.ex e1⟩
    · rintro i σ H' _ ⟨_, _, _, _, _, _, _, fr, _⟩
      exact ⟨sq_of (fr _ _ hC (by simp [c_sA, cm])), sq_of (fr _ _ hF (by simp [f_sA, fm]))⟩
    · rintro i x σ H' H'' hi ⟨v3, v4, v5, v6, v7, v8, rfl, fr, st⟩ ⟨Tp, x, y, rfl, hTp, rfl, hx, hy⟩
      have hgx : TT[i]? = some TT[i] := List.getElem?_eq_getElem hi
      generalize TT[i] = z at hgx
      obtain ⟨q, hq, hqt⟩ := hT.at hgx
      have xq : x = .ref q := by
        unfold refs at hx
        dsimp only at hx
        rw [List.getElem?_map, hq] at hx
        exact (Option.some.inj hx).symm
      obtain ⟨fv, hfv, rfl⟩ := vns_get hy
      subst xq
      have zk : z.1.key ≤ 1000 := hkey z (List.mem_iff_getElem?.mpr ⟨i, hgx⟩)
      have bs := believed_snoc hgx hfv
      have hmd : (made ++ (pruns p r (believed (TT.take i) F)).1).length ≤ 40000 := by
        rw [List.length_append]
        have := pruns_len p (believed (TT.take i) F) r
        have := believed_len (TT.take i) F
        rw [List.length_take] at this
        omega
      have st2 := st.ex (Evl.Ex.new (o := .tup [.ref q, vn fv]) hTp)
      have fr2 : Fr [sA, mA] H (upd H' Tp (.tup [.ref q, vn fv])) := fr.trans (Fr.new hTp)
      refine ⟨Tp, _, rfl, st_of upd_same, rfl, _, _, rfl, _, _, rfl, rfl, ?_⟩
      generalize upd H' Tp (.tup [.ref q, vn fv]) = H2 at st2 fr2
      have hq2 : H2 q = some (.tup (tcV z)) := fr2 _ _ hqt (by
        intro m
        rcases List.mem_cons.mp m with m | m
        · exact ne_tup_ins hqt hS.ob m
        · rw [List.mem_singleton] at m
          subst m
          rw [hS.ls] at hqt
          cases hqt)
      have hA2 : H2 a = some (.ins CNews dx (nF b h uA wA sA)) := fr2 _ _ hA (by simp [asA, a_mA])
      refine q_unp4 (ev_var (v := .ref q) rfl) (st_of hq2) fun H3 e3 => ?_
      have st3 := st2.ex e3
      have fr3 : Fr [sA, mA] H H3 := fr2.trans (Fr.of e3)
      have hA3 := e3 _ _ hA2
      refine s_if (et_and (etN (g := fun n m => decide (n = m)) (n := fv) (m := 0) (ev_var rfl) ev_c trivial) fun _ => etN (g := fun n m => decide (n = m)) (n := if z.1.down = true then 1 else 0) (m := 1) (ev_var rfl) ev_n trivial) (fun hb1 H4 e4 => ?_) (fun hb1 H4 e4 => ?_)
      · rw [Bool.and_eq_true, decide_eq_true_eq, decide_eq_true_eq] at hb1
        have zd : z.1.down = true := by
          cases q : z.1.down
          · rw [q] at hb1
            exact absurd hb1.2 (by decide)
          · rfl
        rw [if_pos hb1.1] at bs
        have st4 := st3.ex e4
        refine s_callM (ev_fld (ev_var rfl) (e4 _ _ hA3) T.c_News T.n_News_strokes (v := .ref sA) rfl) st4.ob rfl (fun H5 e5 => ea_cons (ev_var rfl) (ea_cons (ev_var rfl) ea_nil)) fun H5 e5 => ?_
        refine ⟨sA, sdx, mA, p, _, _, z.1.key, z.1.tick, rfl, st4.ex e5, hmd, zk, fun H' frx s' => ?_⟩
        refine ⟨_, _, _, _, _, _, rfl, (fr3.trans (Fr.of (e4.trans e5))).trans frx, ?_⟩
        rw [bs, pruns_snoc]
        have pt : ptaken p (pruns p r (believed (TT.take i) F)).2 z.1 = taken p (pruns p r (believed (TT.take i) F)).2 ⟨z.1.tick, z.1.key, true⟩ := by
          unfold ptaken
          rw [if_pos zd]
          congr 1
          cases hz : z.1
          rw [hz] at zd
          simp only at zd
          rw [zd]
        rw [pt, ← List.append_assoc]
        exact s'
      · refine s_when (etN (g := fun n m => decide (n = m)) (n := fv) (m := 0) (ev_var rfl) ev_c trivial) (fun hb2 H5 e5 => ?_) (fun hb2 H5 e5 => ?_)
        · have f0 : fv = 0 := of_decide_eq_true hb2
          have zd : z.1.down = false := by
            cases q : z.1.down
            · rfl
            · rw [q, hb2] at hb1
              cases hb1
          rw [if_pos f0] at bs
          have st5 := st3.ex (e4.trans e5)
          refine s_callM (ev_fld (ev_var rfl) (e5 _ _ (e4 _ _ hA3)) T.c_News T.n_News_strokes (v := .ref sA) rfl) st5.ob rfl (fun H6 e6 => ea_cons (ev_var rfl) (ea_cons (ev_var rfl) ea_nil)) fun H6 e6 => ?_
          refine ⟨sA, sdx, mA, p, _, _, z.1.key, z.1.tick, rfl, st5.ex e6, hmd, zk, fun H' frx s' => ?_⟩
          refine ⟨_, _, _, _, _, _, rfl, (fr3.trans (Fr.of ((e4.trans e5).trans e6))).trans frx, ?_⟩
          rw [bs, pruns_snoc]
          have pt : ptaken p (pruns p r (believed (TT.take i) F)).2 z.1 = plift p (pruns p r (believed (TT.take i) F)).2 ⟨z.1.tick, z.1.key, false⟩ := by
            unfold ptaken
            rw [if_neg (by rw [zd]; decide)]
            congr 1
            cases hz : z.1
            rw [hz] at zd
            simp only at zd
            rw [zd]
          rw [pt, ← List.append_assoc]
          exact s'
        · have f0 : ¬ fv = 0 := of_decide_eq_false hb2
          rw [if_neg f0, List.append_nil] at bs
          refine ⟨_, _, _, _, _, _, rfl, fr3.trans (Fr.of (e4.trans e5)), ?_⟩
          rw [bs]
          exact st3.ex (e4.trans e5)
    · rintro σ H' ⟨v3, v4, v5, v6, v7, v8, rfl, fr, st⟩
      rw [List.take_length] at st
      exact kQ H' fr st
end
end Kx

-- KNews5
namespace Kx
open PySem PySem.Spec PyProof.Rows L2 Evl
open CdKeys (Policy over taken bit joined)

theorem ne_cls {H : Hp} {a b C C' dx dx' : Addr} {fs fs' : List (Str × V)} (h : H a = some (.ins C dx fs)) (h' : H b = some (.ins C' dx' fs')) (n : C ≠ C') : a ≠ b := fun e => by
  subst e
  rw [h] at h'
  injection h' with h'
  injection h' with h'
  exact n h'
section
variable {K : PySem.W.Frag} {σ : L2.St} {H : Hp} {ta tb te tl : TE} {t : TA} {x y z v : V} {a b C dx : Addr} {fs : List (Str × V)} {f m : Str} {sp : Sp} {E : XK} {vs xs ys : List V} {D : Ends} {tz : TS} {g : TG}
theorem q_callA (hv : EvA t σ H vs) (k : ∀ H1, Evl.Ex H H1 → sp (vs ++ []) H1 (fun x H2 => g x σ H2 fun σ3 H3 => tz D σ3 H3) E) : tSeq (tAsg (tCall sp [] E t) g) tz D σ H := hv H (Evl.Ex.refl H) _ fun H1 e1 => k H1 e1
theorem el_catB (ha : Ev ta σ H (.ref a)) (hA : H a = some (.lst xs)) (hb : Ev tb σ H (.ref b)) (hB : H b = some (.lst ys)) (hl : xs.length + ys.length ≤ 100000) : EvL (tOp rCat ta tb) σ H (xs ++ ys) := fun H1 e Q q =>
  ha H1 e _ fun H2 e2 => hb H2 (e.trans e2) _ fun H3 e3 => ⟨a, b, xs, ys, rfl, rfl, ((e.trans e2).trans e3) a _ hA, ((e.trans e2).trans e3) b _ hB, sz_of hl, fun l hn => q l _ (fresh_back (e2.trans e3) hn) ((e2.trans e3).trans (Evl.Ex.new hn)) upd_same⟩
theorem ev_index {j : Nat} (ha : Ev ta σ H (.ref a)) (hy : Ev te σ H y) (h : SqL K H a ys) (hf : flatV y = true) (hfs : ys.all flatV = true) (hj : ys[j]? = some z) (he : eqV z y = true) (hn : ∀ (m : Nat) (z' : V), m < j → ys[m]? = some z' → eqV z' y = false) :
    Ev (tBM K "list" (rIndex K) ta (tCons te tNil)) σ H (vn j) := fun H1 e Q q =>
  ha H1 e _ fun H2 e2 => ⟨Or.inl ⟨rfl, ys, ex_l (e.trans e2) h⟩, hy H2 (e.trans e2) _ fun H3 e3 => ⟨a, ys, y, j, z, rfl, rfl, ex_l ((e.trans e2).trans e3) h, hf, hfs, hj, he, hn, q H3 (e2.trans e3)⟩⟩
theorem q_callML {tr : TA} (ha : Ev ta σ H (.ref a)) (ho : H a = some (.ins C dx fs)) (hm : fs.lookup m = none) (h1 : EvL te σ H xs) (hv : ∀ H1, Evl.Ex H H1 → EvA tr σ H1 vs) (k : ∀ p H1, H p = none → Evl.Ex H H1 → H1 p = some (.lst xs) → sp (.ref a :: ((.ref p :: vs) ++ [])) H1 (fun _ H2 => tz D σ H2) E) :
    tSeq (tDrop (tMeth C m sp [] E ta (tCons te tr))) tz D σ H :=
  ha H (Evl.Ex.refl H) _ fun H1 e1 => ⟨a, dx, fs, rfl, e1 _ _ ho, hm, h1 H1 e1 _ fun p H2 hp e2 h2 => hv H2 (e1.trans e2) H2 (Evl.Ex.refl _) _ fun H3 e3 => k p H3 (fresh_back e1 hp) ((e1.trans e2).trans e3) (e3 _ _ h2)⟩
end

/-! ### the first unsure one -/
theorem sure_none (b now : Nat) : ∀ T : List Tc, ¬ 2 ∈ fates b now T → sure b now T = T.length
  | [], _ => rfl
  | x :: r, h => by
    have h1 : ¬ fateD b now r x = 2 := fun z => h (by rw [← z]; exact List.mem_cons_self)
    have h2 : ¬ 2 ∈ fates b now r := fun z => h (List.mem_cons_of_mem _ z)
    unfold sure
    rw [if_neg h1, sure_none b now r h2]
    rfl
theorem sure_some (b now : Nat) : ∀ T : List Tc, 2 ∈ fates b now T → (fates b now T)[sure b now T]? = some 2 ∧ ∀ m f, m < sure b now T → (fates b now T)[m]? = some f → f ≠ 2
  | [], h => by cases h
  | x :: r, h => by
    unfold sure
    by_cases c : fateD b now r x = 2
    · rw [if_pos c]
      exact ⟨congrArg some c, fun m f hm => absurd hm (Nat.not_lt_zero _)⟩
    · rw [if_neg c]
      have h2 : 2 ∈ fates b now r := by
        rcases List.mem_cons.mp h with q | q
        · exact absurd q.symm c
        · exact q
      have ih := sure_some b now r h2
      refine ⟨ih.1, fun m f hm hf => ?_⟩
      cases m with
      | zero =>
        have := Option.some.inj hf
        rw [← this]
        exact c
      | succ m => exact ih.2 m f (by omega) hf

/-! ### changes as data, against [] -/
def tcD (x : Tc) : PyData := .tuple [.int (x.1.tick : Int), .int (x.1.key : Int), .int ((if x.1.down = true then 1 else 0 : Nat) : Int), .bool x.2]
theorem dpAll_tcs {K : PySem.W.Frag} {H : Hp} : ∀ {as : List Addr} {T : List Tc}, TcsAt H as T → DpAll K H (refs as) (T.map tcD)
  | [], [], _ => .nil
  | _ :: _, x :: _, ⟨h, t⟩ => .cons (.tup (st_of h) (.cons (.int _) (.cons (.int _) (.cons (.int _) (.cons (.bl _) .nil))))) (dpAll_tcs t)
  | [], _ :: _, h => h.elim
  | _ :: _, [], h => h.elim
theorem shaped_tcs (T : List Tc) : SeqAt.shaped (.list (T.map tcD)) = true := by
  have h1 : ∀ l : List Tc, PyData.canLayAll0 (l.map tcD) = true ∧ PyData.depthAll (l.map tcD) ≤ 1 := by
    intro l
    induction l with
    | nil => exact ⟨rfl, Nat.zero_le _⟩
    | cons n r ih =>
      refine ⟨?_, ?_⟩
      · show (PyData.canLay0 (tcD n) && PyData.canLayAll0 (r.map tcD)) = true
        rw [ih.1]
        rfl
      · show max (PyData.depth (tcD n)) (PyData.depthAll (r.map tcD)) ≤ 1
        have : PyData.depth (tcD n) = 1 := rfl
        have := ih.2
        omega
  obtain ⟨a, b⟩ := h1 T
  show (PyData.canLayAll0 (T.map tcD) && decide (PyData.depthAll (T.map tcD) + 1 ≤ 64)) = true
  rw [a, decide_eq_true (by omega)]
  rfl

/-! ### News -/
structure NewsAt (CN CS : Addr) (H : Hp) (a : Addr) (p : Policy) (m : NewsM) (n : Nat) (dx uA wA sA sdx mA : Addr) (as : List Addr) : Prop where
  ob : H a = some (.ins CN dx (nF p.bounce m.pressed uA wA sA))
  ups : UpsAt H uA m.ups n
  ws : ChAt H wA m.waits as
  st : StrokesAt CS H sA p m.run [] sdx mA
theorem NewsAt.ex {CN CS : Addr} {H H' : Hp} {a : Addr} {p : Policy} {m : NewsM} {n : Nat} {dx uA wA sA sdx mA : Addr} {as : List Addr} (e : Evl.Ex H H') (h : NewsAt CN CS H a p m n dx uA wA sA sdx mA as) : NewsAt CN CS H' a p m n dx uA wA sA sdx mA as :=
  ⟨e _ _ h.ob, h.ups.ex e, ⟨e _ _ h.ws.1, h.ws.2.ex e⟩, h.st.ex e⟩
section
variable {P : Program} {w : World} {K : PySem.W.Frag} {mg : Str → Option Value} {base : Heap} {CBoard CNumberedLine CStrokes CNews CPart CPlainLine CHall : Addr}
def spCome (K : PySem.W.Frag) (CN CS : Addr) : Sp := fun vs H Q _ => ∃ (a eA : Addr) (ns : List Nat) (l : List Evt) (now : Nat) (p : Policy) (m : NewsM) (n : Nat) (dx uA wA sA sdx mA : Addr) (as : List Addr), vs = [.ref a, vn now, .ref eA] ∧
  NewsAt CN CS H a p m n dx uA wA sA sdx mA as ∧ SqL K H eA (vns ns) ∧ KeysCalls.eventsIn ns = some l ∧ l.length ≤ 4096 ∧ (∀ e ∈ l, e.key ≤ 1000) ∧ m.waits.length ≤ 1024 ∧ n ≤ 50000 ∧ Ud (m.waits ++ (chIn p.bounce m.pressed m.ups l).1) ∧ (∀ x ∈ m.waits ++ (chIn p.bounce m.pressed m.ups l).1, x.1.key ≤ 1000) ∧
  (come p m now l = none → RetV .non H Q) ∧
  (∀ out m', come p m now l = some (out, m') → ∀ (H' : Hp) (uA' wA' m2 : Addr) (as' : List Addr), Fr [a, sA, mA] H H' → H m2 = none → H wA' = none → H' mA = some (.lst (vns (sNums out))) → out.length ≤ 30001 → NewsAt CN CS H' a p m' (n + l.length) dx uA' wA' sA sdx m2 as' → Q (.ref mA) H')
theorem el_fromV {σ : L2.St} {H : Hp} {te tl : TE} {a : Addr} {xs : List V} {i : Nat} (h : Ev te σ H (.ref a)) (hi : Ev tl σ H (vn i)) (hs : SqL K H a xs) : EvL (tSl (rSlL K) te (tPart tl) tNoPart) σ H (xs.drop i) := by
  have r := el_sl h (eo_some hi) eo_none hs
  rw [cut_n0] at r
  exact r
theorem el_toV {σ : L2.St} {H : Hp} {te tl : TE} {a : Addr} {xs : List V} {i : Nat} (h : Ev te σ H (.ref a)) (hi : Ev tl σ H (vn i)) (hs : SqL K H a xs) : EvL (tSl (rSlL K) te tNoPart (tPart tl)) σ H (xs.take i) := by
  have r := el_sl h eo_none (eo_some hi) hs
  rw [cut_0n] at r
  exact r
theorem scNewsCome : FnScope ["self", "now", "events", "changes", "pressed", "last_ups", "fates", "certain"] ["self", "now", "events"] (defScope tNewsCome) := ⟨rfl, rfl, rfl, by decide +kernel, rfl, by decide +kernel, by decide +kernel⟩
theorem refs_drop (as : List Addr) (i : Nat) : (refs as).drop i = refs (as.drop i) := List.map_drop.symm
theorem refs_take (as : List Addr) (i : Nat) : (refs as).take i = refs (as.take i) := List.map_take.symm
theorem ok_News_come {f f1 f2 f3 f4 f5 : Addr} {fd fd1 fd2 fd3 fd4 fd5 : FuncData} (D : RawM K CNews "come" "News.come" tNewsCome f fd) (T : Tx K mg CBoard CNumberedLine CStrokes CNews CPart CPlainLine CHall)
    (G_changes_in : Ok P w K mg base 1 "changes_in" ["events", "pressed", "last_ups", "bounce"] (spChangesIn K) f1 fd1) (G_fates_of : Ok P w K mg base 1 "fates_of" ["changes", "now", "bounce"] (spFatesOf K) f2 fd2)
    (G_News_settle : OkM P w K mg base 4 CNews "settle" ["self", "changes", "fates"] (spSettle CNews CStrokes) f3 fd3) (G_Strokes_reach : OkM P w K mg base 2 CStrokes "reach" ["self", "tick"] (spReach CStrokes) f4 fd4) (G_Strokes_hand_over : OkM P w K mg base 1 CStrokes "hand_over" ["self"] (spHandOver CStrokes) f5 fd5) :
    OkM P w K mg base 5 CNews "come" ["self", "now", "events"] (spCome K CNews CStrokes) f fd := by
  refine ⟨D.fn.ok scNewsCome (fun vs H Q E h => ?_) (fun cdv A outer s H vs Q E hr h => ⟨_,
    (pss_cons (ps_asg (pe_own G_changes_in hr (pa_cons (pv 2) (pa_cons (pe_fld (pv 0) rfl) (pa_cons (pe_fld (pv 0) rfl) (pa_cons (pe_fld (pv 0) rfl) pa_nil))))) (pg_tup rfl (pgs_cons (pg_name (i := 3) scNewsCome.nd rfl (Or.inl rfl)) (pgs_cons (pg_name (i := 4) scNewsCome.nd rfl (Or.inl rfl)) (pgs_cons (pg_name (i := 5) scNewsCome.nd rfl (Or.inl rfl)) pgs_nil)))))
      (pss_cons (ps_set (i := 3) scNewsCome.nd rfl (Or.inl rfl) (pe_op op_cat (pe_fld (pv 0) rfl) (pv 3)))
      (pss_cons (ps_set (i := 6) scNewsCome.nd rfl (Or.inl rfl) (pe_own G_fates_of hr (pa_cons (pv 3) (pa_cons (pv 1) (pa_cons (pe_fld (pv 0) rfl) pa_nil)))))
      (pss_cons (ps_set (i := 7) scNewsCome.nd rfl (Or.inl rfl) (pe_ifExp (pt_cmpR op_in_seq (pe_gi T.g_UNSURE) (pv 6) (by rfl)) (pe_bm PySem.F.plainAttrs_list PySem.F.slot_list_index PySem.F.type_list_index mt_index (pv 6) (pa_cons (pe_gi T.g_UNSURE) pa_nil)) (pe_callB call_len_seq (by rfl) T.b_len PySem.boot_len (pa_cons (pv 6) pa_nil))))
      (pss_cons (ps_if (pt_cmpR on_gt (pe_op on_sub (pe_callB call_len_seq (by rfl) T.b_len PySem.boot_len (pa_cons (pv 3) pa_nil)) (pv 7)) (pe_gi T.g_MOST_WAITING) (nomark _)) (pss_one (ps_ret pe_non)) pss_nil)
      (pss_cons (ps_fld (pv 0) (pv 4) rfl)
      (pss_cons (ps_fld (pv 0) (pv 5) rfl)
      (pss_cons (ps_fld (pv 0) (pe_slice sl_list (pv 3) (po_some (pv 7)) po_none) rfl)
      (pss_cons (ps_expr (pe_ownM G_News_settle T.c_News hr (pv 0) (pa_cons (pe_slice sl_list (pv 3) po_none (po_some (pv 7))) (pa_cons (pv 6) pa_nil))))
      (pss_cons (ps_expr (pe_ownM G_Strokes_reach T.c_Strokes hr (pe_fld (pv 0) rfl) (pa_cons (pe_ifExp (pt_cmpR (op_neD hr.units) (pe_fld (pv 0) rfl) (pe_lst pa_nil) (nomark _)) (pe_ix ix_tup (pe_ix ix_list (pe_fld (pv 0) rfl) pe_n (fun _ _ => rfl)) pe_n (fun _ _ => rfl)) (pv 1)) pa_nil)))
      (pss_one (ps_ret (pe_ownM0 G_Strokes_hand_over T.c_Strokes hr (pe_fld (pv 0) rfl)))))))))))))), ?_⟩), D.at_, D.fn.binds fun _ _ _ _ _ _ us hl => match us, hl with | [_, _, _], _ => rfl⟩
  · obtain ⟨a, eA, ns, l, now, p, m, n, dx, uA, wA, sA, sdx, mA, as, rfl, _⟩ := h
    rfl
  · obtain ⟨a, eA, ns, l, now, p, m, n, dx, uA, wA, sA, sdx, mA, as, rfl, hN, hE, hl, hlen, hkey, hw, hn, hUd, hkeys, kNo, kYes⟩ := h
    have a_sA : a ≠ sA := ne_cls hN.ob hN.st.ob (Ne.symm T.d_Strokes_News)
    have a_mA : a ≠ mA := (ne_lst_ins hN.st.ls hN.ob).symm
    refine q_callA (ea_cons (ev_var rfl) (ea_cons (ev_fld (ev_var rfl) hN.ob T.c_News T.n_News_pressed (v := vn m.pressed) rfl) (ea_cons (ev_fld (ev_var rfl) hN.ob T.c_News T.n_News_last_ups (v := .ref uA) rfl) (ea_cons (ev_fld (ev_var rfl) hN.ob T.c_News T.n_News_bounce (v := vn p.bounce) rfl) ea_nil)))) fun H1 e1 => ?_
    refine ⟨eA, uA, ns, l, m.pressed, p.bounce, n, m.ups, rfl, ex_l e1 hE, hl, hN.ups.ex e1, by omega, by omega, hkey, fun H2 t c d' as2 e2 ht hc hU => ?_⟩
    have cl := chIn_length p.bounce l m.pressed m.ups
    unfold come at kNo kYes
    dsimp only at kNo kYes
    generalize chIn p.bounce m.pressed m.ups l = ch at ht hc hU hUd hkeys kNo kYes cl
    refine ⟨t, _, rfl, st_of ht, rfl, _, _, rfl, _, _, rfl, _, _, rfl, rfl, ?_⟩
    have e12 := e1.trans e2
    have wl := hN.ws.2.length
    have cl2 := hc.2.length
    refine q_asgL (el_catB (ev_fld (ev_var rfl) (e12 _ _ hN.ob) T.c_News T.n_News_waiting (v := .ref wA) rfl) (e12 _ _ hN.ws.1) (ev_var rfl) hc.1 (by rw [refs_length, refs_length]; omega)) fun c2 H3 hc2 e3 h3 => ?_
    have e13 := e12.trans e3
    have hTT : TcsAt H3 (as ++ as2) (m.waits ++ ch.1) := (hN.ws.2.ex e13).append (hc.2.ex e3)
    have tlen : (m.waits ++ ch.1).length ≤ 6000 := by rw [List.length_append]; omega
    rw [← refs_append] at h3
    generalize hT : m.waits ++ ch.1 = TT at hTT tlen hUd hkeys kNo kYes
    generalize hAs : as ++ as2 = as3 at hTT h3
    have al := hTT.length
    refine q_asgL (el_call (ea_cons (ev_var rfl) (ea_cons (ev_var rfl) (ea_cons (ev_fld (ev_var rfl) (e13 _ _ hN.ob) T.c_News T.n_News_bounce (v := vn p.bounce) rfl) ea_nil))) (fun H' e' Q' q' E' => ⟨c2, TT, as3, now, p.bounce, rfl, ⟨e' _ _ h3, hTT.ex e'⟩, hUd, by omega, fun q H2 hq e2 h2 => q' q H2 hq e2 h2⟩)) fun fA H4 hf e4 h4 => ?_
    have e14 := e13.trans e4
    have sle := sure_le p.bounce now TT
    have flen := fates_length p.bounce now TT
    refine q_asg (v := vn (sure p.bounce now TT)) (ev_if (b := decide (2 ∈ fates p.bounce now TT)) (et_is (et_test (ev_op ev_c (ev_var rfl) (rv_isL (x := vn 2) (sq_of h4) rfl (flat_vns _)))) (inV_vns 2 _)) (fun hb => ?_) (fun hb => ?_)) fun H5 e5 => ?_
    · have sm := sure_some p.bounce now TT (of_decide_eq_true hb)
      refine ev_index (y := vn 2) (z := vn 2) (ev_var rfl) ev_c (sq_of h4) rfl (flat_vns _) (vns_at sm.1) (by rw [eqV_vn]; rfl) fun k z' hk hz => ?_
      obtain ⟨g, hg, rfl⟩ := vns_get hz
      rw [eqV_vn]
      exact decide_eq_false (sm.2 k g hk hg)
    · have sn := sure_none p.bounce now TT (of_decide_eq_false hb)
      rw [sn, ← flen]
      exact ev_lenN' (ev_var rfl) (sq_of h4)
    have zw := sieve_waits p.bounce now TT
    have zb := sieve_believed p.bounce now TT
    have zl : (sieve p.bounce now TT).2.length = TT.length - sure p.bounce now TT := by rw [zw, List.length_drop]
    have h3' := e5 _ _ (e4 _ _ h3)
    refine q_when (etN (g := fun n m => decide (m < n)) (n := TT.length - sure p.bounce now TT) (m := 1024) (evN (n := TT.length) (m := sure p.bounce now TT) (ev_is (ev_len (ev_var rfl) (sq_of h3')) (by rw [refs_length, al])) (ev_var rfl) sle) ev_c trivial) (fun hb H6 e6 => s_ret ev_c fun H7 e7 => ?_) (fun hb H6 e6 => ?_)
    · rw [if_pos (by rw [zl]; exact of_decide_eq_true hb)] at kNo
      exact kNo rfl H7 (((e14.trans e5).trans e6).trans e7)
    · have nb : ¬ 1024 < (sieve p.bounce now TT).2.length := by rw [zl]; exact of_decide_eq_false hb
      rw [if_neg nb] at kYes
      have e16 := (e14.trans e5).trans e6
      have o6 := e16 _ _ hN.ob
      have fa : ∀ (H : Hp) (o : HO), Fr [a, sA, mA] H (upd H a o) := fun H o => Fr.upd (by simp)
      refine q_fld (ev_var rfl) (ev_var rfl) o6 T.c_News T.n_News_pressed (by show 5 < 1000; decide) fun H7 e7 => ?_
      have o7 : upd H7 a (.ins CNews dx (putF "pressed" (vn ch.2.1) (nF p.bounce m.pressed uA wA sA))) a = some (.ins CNews dx (nF p.bounce ch.2.1 uA wA sA)) := upd_same
      have f7 : Fr [a] H6 (upd H7 a (.ins CNews dx (putF "pressed" (vn ch.2.1) (nF p.bounce m.pressed uA wA sA)))) := (Fr.of e7).trans (Fr.upd (by simp))
      generalize upd H7 a (.ins CNews dx (putF "pressed" (vn ch.2.1) (nF p.bounce m.pressed uA wA sA))) = K7 at o7 f7
      refine q_fld (ev_var rfl) (ev_var rfl) o7 T.c_News T.n_News_last_ups (by show 5 < 1000; decide) fun H8 e8 => ?_
      have o8 : upd H8 a (.ins CNews dx (putF "last_ups" (.ref d') (nF p.bounce ch.2.1 uA wA sA))) a = some (.ins CNews dx (nF p.bounce ch.2.1 d' wA sA)) := upd_same
      have f8 : Fr [a] H6 (upd H8 a (.ins CNews dx (putF "last_ups" (.ref d') (nF p.bounce ch.2.1 uA wA sA)))) := (f7.trans (Fr.of e8)).trans (Fr.upd (by simp))
      generalize upd H8 a (.ins CNews dx (putF "last_ups" (.ref d') (nF p.bounce ch.2.1 uA wA sA))) = K8 at o8 f8
      have c2a : c2 ≠ a := ne_lst_ins h3 (e13 _ _ hN.ob)
      have h38 : K8 c2 = some (.lst (refs as3)) := f8 _ _ (e6 _ _ h3') (by simpa using c2a)
      refine q_fldL (el_fromV (ev_var rfl) (ev_var rfl) (sq_of h38)) (fun _ _ => ev_var rfl) o8 T.c_News T.n_News_waiting (by show 5 < 1000; decide) fun wA' H9 hw' e9 h9 => ?_
      have wa' : wA' ≠ a := ne_lst_ins h9 (e9 _ _ o8)
      have wA0 : H wA' = none := fresh_back e16 (by
        cases q : H6 wA' with
        | none => rfl
        | some o =>
          rw [f8 _ _ q (by simpa using wa')] at hw'
          cases hw')
      have o9 : upd H9 a (.ins CNews dx (putF "waiting" (.ref wA') (nF p.bounce ch.2.1 d' wA sA))) a = some (.ins CNews dx (nF p.bounce ch.2.1 d' wA' sA)) := upd_same
      have f9 : Fr [a] H6 (upd H9 a (.ins CNews dx (putF "waiting" (.ref wA') (nF p.bounce ch.2.1 d' wA sA)))) := (f8.trans (Fr.of e9)).trans (Fr.upd (by simp))
      have hw9 : upd H9 a (.ins CNews dx (putF "waiting" (.ref wA') (nF p.bounce ch.2.1 d' wA sA))) wA' = some (.lst ((refs as3).drop (sure p.bounce now TT))) := (upd_ne wa').trans h9
      generalize upd H9 a (.ins CNews dx (putF "waiting" (.ref wA') (nF p.bounce ch.2.1 d' wA sA))) = K9 at o9 f9 hw9
      have h39 : K9 c2 = some (.lst (refs as3)) := f9 _ _ (e6 _ _ h3') (by simpa using c2a)
      have fAa : fA ≠ a := ne_lst_ins h4 (e14 _ _ hN.ob)
      have h49 : K9 fA = some (.lst (vns (fates p.bounce now TT))) := f9 _ _ (e6 _ _ (e5 _ _ h4)) (by simpa using fAa)
      have tt9 : TcsAt K9 as3 TT := (hTT.ex ((e4.trans e5).trans e6)).fr f9 fun s hs xs q => by
        rw [List.mem_singleton] at hs
        subst hs
        rw [o6] at q
        cases q
      have sA9 : StrokesAt CStrokes K9 sA p m.run [] sdx mA := (hN.st.ex e16).fr f9 (by simpa using a_sA.symm) (by simpa using a_mA.symm)
      have wA'm : wA' ≠ mA := by
        rintro rfl
        have := f8 _ _ (e16 _ _ hN.st.ls) (by simpa using a_mA.symm)
        rw [this] at hw'
        cases hw'
      have d'a : d' ≠ a := by
        obtain ⟨kvs, g, _⟩ := hU
        exact ne_dk_ins g (e12 _ _ hN.ob)
      have hU9 : UpsAt K9 d' ch.2.2 (n + l.length) := (hU.ex (((e3.trans e4).trans e5).trans e6)).fr f9 (by simpa using d'a)
      refine q_callML (ev_var rfl) o9 rfl (el_toV (ev_var rfl) (ev_var rfl) (sq_of h39)) (fun _ _ => ea_cons (ev_var rfl) ea_nil) fun c3 H10 hc3 e10 h10 => ?_
      have c3m : c3 ≠ mA := by
        rintro rfl
        rw [sA9.ls] at hc3
        cases hc3
      have fAm : fA ≠ mA := by
        rintro rfl
        have := e13 _ _ hN.st.ls
        rw [this] at hf
        cases hf
      rw [refs_take] at h10
      have tk : (TT.take (sure p.bounce now TT)).length = sure p.bounce now TT := by rw [List.length_take]; omega
      refine ⟨a, dx, c3, fA, d', wA', sA, sdx, mA, p.bounce, ch.2.1, p, m.run, [], TT.take (sure p.bounce now TT), as3.take (sure p.bounce now TT), fates p.bounce now TT, rfl, e10 _ _ o9, ⟨h10, (tt9.ex e10).take _⟩, e10 _ _ h49, by omega, sA9.ex e10, c3m, fAm, a_sA, by
        show 0 + _ ≤ 30000
        omega, fun x hx => hkeys x (List.mem_of_mem_take hx), fun H11 f11 s11 => ?_⟩
      rw [← zb, List.nil_append] at s11
      have o11 : H11 a = some (.ins CNews dx (nF p.bounce ch.2.1 d' wA' sA)) := f11 _ _ (e10 _ _ o9) (by simp [a_sA, a_mA])
      have wsA : wA' ≠ sA := ne_lst_ins hw9 sA9.ob
      have w11 : H11 wA' = some (.lst (refs (as3.drop (sure p.bounce now TT)))) := f11 _ _ (e10 _ _ (hw9.trans (by rw [refs_drop]))) (by simp [wsA, wA'm])
      have sm : ∀ s ∈ [sA, mA], ∀ xs, K9 s ≠ some (.tup xs) := by
        intro s hs xs q
        rcases List.mem_cons.mp hs with z | z
        · subst z
          rw [sA9.ob] at q
          cases q
        · rw [List.mem_singleton] at z
          subst z
          rw [sA9.ls] at q
          cases q
      have tt11 : TcsAt H11 (as3.drop (sure p.bounce now TT)) (TT.drop (sure p.bounce now TT)) := (tt9.drop _).fr ((Fr.of e10).trans f11) sm
      rw [← zw] at tt11
      generalize hz2 : (sieve p.bounce now TT).2 = W at tt11 kYes zl nb
      generalize hz1 : (sieve p.bounce now TT).1 = B at s11 kYes
      have Bl : B.length ≤ 6000 := by
        have := believed_len (TT.take (sure p.bounce now TT)) (fates p.bounce now TT)
        rw [← zb, hz1] at this
        omega
      have pl := pruns_len p B m.run
      -- reach
      refine q_callM (ev_fld (ev_var rfl) o11 T.c_News T.n_News_strokes (v := .ref sA) rfl) s11.ob rfl (vs := [vn (reachOf now W)]) (fun H12 e12 => ea_cons (ev_if (b := !(W.map tcD).isEmpty) (et_test (ev_neNil (ev_fld (ev_var rfl) (e12 _ _ o11) T.c_News T.n_News_waiting (v := .ref wA') rfl) (sq_of (e12 _ _ w11)) (fun H' e' => dpAll_tcs (tt11.ex (e12.trans e'))) (shaped_tcs W))) (fun hb => ?_) (fun hb => ?_)) ea_nil) fun H12 e12 => ?_
      · cases W with
        | nil => cases hb
        | cons x r =>
          obtain ⟨q, hq, hqt⟩ := tt11.at (i := 0) (x := x) rfl
          refine ev_op (x := .ref q) (y := vn 0) (ev_op (x := .ref wA') (y := vn 0) (ev_fld (ev_var rfl) (e12 _ _ o11) T.c_News T.n_News_waiting rfl) ev_n (rv_ixL (sq_of (e12 _ _ w11)) (atI_at (i := 0) ?_))) ev_n (rv_ixT (st_of (e12 _ _ hqt)) rfl)
          unfold refs
          rw [List.getElem?_map, hq]
          rfl
      · cases W with
        | nil => exact ev_var rfl
        | cons x r => cases hb
      refine ⟨sA, sdx, mA, p, _, _, reachOf now W, rfl, s11.ex e12, by omega, fun H13 f13 s13 => ?_⟩
      have o13 : H13 a = some (.ins CNews dx (nF p.bounce ch.2.1 d' wA' sA)) := f13 _ _ (e12 _ _ o11) (by simp [a_sA, a_mA])
      refine v_callM (vs := []) (ev_fld (ev_var rfl) o13 T.c_News T.n_News_strokes (v := .ref sA) rfl) s13.ob rfl (fun _ _ => ea_nil) fun H14 e14' => ?_
      refine ⟨sA, sdx, mA, p, _, _, rfl, s13.ex e14', fun H15 m2 f15 hm2 hmA s15 => ?_⟩
      have ol := over_len p (pruns p m.run B).2 (reachOf now W)
      have frAll : Fr [a, sA, mA] H H15 := by
        refine (Fr.of e16).trans ((f9.mono (by simp)).trans ((Fr.of e10).trans ((f11.mono (by simp)).trans ((Fr.of e12).trans ((f13.mono (by simp)).trans ((Fr.of e14').trans (f15.mono (by simp))))))))
      have m2H : H m2 = none := by
        cases q : H m2 with
        | none => rfl
        | some o =>
          have na : m2 ≠ a := by
            rintro rfl
            have := e14' _ _ o13
            rw [this] at hm2
            cases hm2
          have ns : m2 ≠ sA := by
            rintro rfl
            have := (s13.ex e14').ob
            rw [this] at hm2
            cases hm2
          have nm : m2 ≠ mA := by
            rintro rfl
            have := (s13.ex e14').ls
            rw [this] at hm2
            cases hm2
          have := e14' _ _ (f13 _ _ (e12 _ _ (f11 _ _ (e10 _ _ (f9 _ _ (e16 _ _ q) (by simpa using na))) (by simp [ns, nm]))) (by simp [ns, nm]))
          rw [this] at hm2
          cases hm2
      have d's : d' ≠ sA := by
        obtain ⟨kvs, g, _⟩ := hU9
        exact ne_dk_ins g sA9.ob
      have d'm : d' ≠ mA := by
        obtain ⟨kvs, g, _⟩ := hU9
        rintro rfl
        rw [sA9.ls] at g
        cases g
      refine kYes _ _ rfl H15 d' wA' m2 (as3.drop (sure p.bounce now TT)) frAll m2H wA0 hmA ?_ ⟨?_, ?_, ⟨?_, ?_⟩, s15⟩
      · show ((pruns p m.run B).1 ++ (over p (pruns p m.run B).2 (reachOf now W)).1).length ≤ 30001
        rw [List.length_append]
        omega
      · exact f15 _ _ (e14' _ _ o13) (by simpa using a_sA)
      · exact (((hU9.ex e10).fr f11 (by simp [d's, d'm])).ex e12 |>.fr f13 (by simp [d's, d'm]) |>.ex e14').fr f15 (by simpa using d's)
      · exact f15 _ _ (e14' _ _ (f13 _ _ (e12 _ _ w11) (by simp [wsA, wA'm]))) (by simpa using wsA)
      · have sm13 : ∀ s ∈ [sA, mA], ∀ xs, H11 s ≠ some (.tup xs) := by
          intro s hs xs q
          rcases List.mem_cons.mp hs with z | z
          · subst z
            rw [s11.ob] at q
            cases q
          · rw [List.mem_singleton] at z
            subst z
            rw [s11.ls] at q
            cases q
        exact tt11.fr ((Fr.of e12).trans (f13.trans ((Fr.of e14').trans (f15.mono (by simp))))) sm13
end
end Kx

-- KNews6
namespace Kx
open PySem PySem.Spec PyProof.Rows L2 Evl
open CdKeys (Policy over taken bit joined)

/-! ### classes that are made -/
structure OkC (P : Program) (w : World) (K : PySem.W.Frag) (mg : Str → Option Value) (base : Heap) (k : Nat) (x : Str) (C : Addr) (ps : List Str) (sp : Sp) (f : Addr) (fd : FuncData) : Prop where
  makes : Mk K C f
  ok : FnOk P w K mg base CX0 k f fd ps sp
  at_ : mg x = some (.ref C)
  bi : Binds K fd ps []
section
variable {X : Cx} {k j : Nat} {f C : Addr} {fd : FuncData} {ps : List Str} {sp : Sp} {x : Str}
theorem pe_mkOwn {e : Expr} {es : List Expr} {t : TA} {p pos : Pos} (G : OkC X.prog X.w X.K X.mg X.base k x C ps sp f fd) (hr : Room j X.A) (ha : PA X (e :: es) t) (hj : k + 1 ≤ j := by decide) (hg : Gl X x := by rfl) (hdb : (x == ("__debug__" : Str)) = false := by decide)
    (he : starEach (e :: es) X.env = (false, eval e X.env) :: starEach es X.env := by rfl) (hpl : (backTo pos (starEach es X.env)).any (·.1) = false := by rfl) :
    PE X (.Call (.Name x p) (e :: es) [] pos) (tMake C sp [] E0 t) := pe_make G.makes G.ok (hr.mono hj) hg G.at_ G.bi .nil pass0 ha hdb he hpl
theorem pe_mkOwn0 {p pos : Pos} (G : OkC X.prog X.w X.K X.mg X.base k x C ps sp f fd) (hr : Room j X.A) (hj : k + 1 ≤ j := by decide) (hg : Gl X x := by rfl) (hdb : (x == ("__debug__" : Str)) = false := by decide) :
    PE X (.Call (.Name x p) [] [] pos) (tMake C sp [] E0 tNil) := pe_make0 G.makes G.ok (hr.mono hj) hg G.at_ G.bi .nil pass0 hdb
end
section
variable {K : PySem.W.Frag} {σ : L2.St} {H : Hp} {ta te : TE} {t : TA} {a C C2 dx : Addr} {fs : List (Str × V)} {f : Str} {sp : Sp} {E : XK} {vs : List V} {D : Ends} {tz : TS}
/-- the heap as an __init__ meets it: a new instance, its own dict -/
def born (H : Hp) (C x dx : Addr) : Hp := upd (upd H dx (.own x)) x (.ins C dx [])
theorem born_at {H : Hp} {C x dx : Addr} : born H C x dx x = some (.ins C dx []) := upd_same
theorem born_ex {H : Hp} {C x dx : Addr} (hx : H x = none) (hd : H dx = none) (n : dx ≠ x) : Evl.Ex H (born H C x dx) := (Evl.Ex.new hd).trans (Evl.Ex.new ((upd_ne n.symm).trans hx))
/-- o.f = C2(..) -/
theorem s_fldM (hv : EvA t σ H vs) (ha : ∀ H1, Evl.Ex H H1 → Ev ta σ H1 (.ref a)) (k : ∀ x d H1, Evl.Ex H H1 → H1 x = none → H1 d = none → d ≠ x → sp (.ref x :: (vs ++ [])) (born H1 C2 x d) (fun v H2 => v = .non ∧ ta σ H2 fun y H3 => ∃ a C dx fs, y = .ref a ∧ H3 a = some (.ins C dx fs) ∧ Cls K C ∧ NoAttr K C f ∧ fs.length < 1000 ∧ D.nx σ (upd H3 a (.ins C dx (putF f (.ref x) fs)))) E) :
    sFld K ta (tMake C2 sp [] E t) f D σ H := hv H (Evl.Ex.refl H) _ fun H1 e1 x d hx hd n => k x d H1 e1 hx hd n
theorem q_fldM (hv : EvA t σ H vs) (ha : ∀ H1, Evl.Ex H H1 → Ev ta σ H1 (.ref a)) (k : ∀ x d H1, Evl.Ex H H1 → H1 x = none → H1 d = none → d ≠ x → sp (.ref x :: (vs ++ [])) (born H1 C2 x d) (fun v H2 => v = .non ∧ ta σ H2 fun y H3 => ∃ a C dx fs, y = .ref a ∧ H3 a = some (.ins C dx fs) ∧ Cls K C ∧ NoAttr K C f ∧ fs.length < 1000 ∧ tz D σ (upd H3 a (.ins C dx (putF f (.ref x) fs)))) E) :
    tSeq (sFld K ta (tMake C2 sp [] E t) f) tz D σ H := s_fldM (D := { D with nx := tz D }) hv ha k
theorem q_asgM {i : Nat} (hv : EvA t σ H vs) (k : ∀ x d H1, Evl.Ex H H1 → H1 x = none → H1 d = none → d ≠ x → sp (.ref x :: (vs ++ [])) (born H1 C2 x d) (fun v H2 => v = .non ∧ tz D (σ.set i (some (.ref x))) H2) E) :
    tSeq (tAsg (tMake C2 sp [] E t) (gName i)) tz D σ H := hv H (Evl.Ex.refl H) _ fun H1 e1 x d hx hd n => k x d H1 e1 hx hd n
theorem s_asgM {i : Nat} (hv : EvA t σ H vs) (k : ∀ x d H1, Evl.Ex H H1 → H1 x = none → H1 d = none → d ≠ x → sp (.ref x :: (vs ++ [])) (born H1 C2 x d) (fun v H2 => v = .non ∧ D.nx (σ.set i (some (.ref x))) H2) E) :
    tAsg (tMake C2 sp [] E t) (gName i) D σ H := hv H (Evl.Ex.refl H) _ fun H1 e1 x d hx hd n => k x d H1 e1 hx hd n
end
theorem Fr.free {S : List Addr} {H H' : Hp} {a : Addr} (f : Fr S H H') (h : H' a = none) (n : a ∉ S) : H a = none := by
  cases q : H a with
  | none => rfl
  | some o =>
    rw [f a o q n] at h
    cases h
section
variable {P : Program} {w : World} {K : PySem.W.Frag} {mg : Str → Option Value} {base : Heap} {CBoard CNumberedLine CStrokes CNews CPart CPlainLine CHall : Addr}
def newsM0 : NewsM := ⟨0, noUps, [], CdKeys.resting⟩
/-! ### News.__init__ -/
def spNewsInit (CN CS : Addr) : Sp := fun vs H Q _ => ∃ (a dx : Addr) (p : Policy), vs = [.ref a, vn p.way, vn p.bounce, vn p.gap] ∧ H a = some (.ins CN dx []) ∧
  ∀ (H' : Hp) (uA wA sA sdx mA : Addr), Fr [a] H H' → H sA = none → H mA = none → H wA = none → NewsAt CN CS H' a p newsM0 0 dx uA wA sA sdx mA [] → Q .non H'
theorem scNewsInit : FnScope ["self", "way", "bounce", "gap"] ["self", "way", "bounce", "gap"] (defScope tNewsInit) := ⟨rfl, rfl, rfl, by decide +kernel, rfl, by decide +kernel, by decide +kernel⟩
theorem ok_News_init {f f1 : Addr} {fd fd1 : FuncData} (D : Fun K "__init__" "News.__init__" tNewsInit f fd) (T : Tx K mg CBoard CNumberedLine CStrokes CNews CPart CPlainLine CHall) (G_Strokes : OkC P w K mg base 1 "Strokes" CStrokes ["self", "way", "gap"] (spStrokesInit CStrokes) f1 fd1) :
    FnOk P w K mg base CX0 3 f fd ["self", "way", "bounce", "gap"] (spNewsInit CNews CStrokes) := by
  refine D.ok scNewsInit (fun vs H Q E h => ?_) (fun cdv A outer s H vs Q E hr h => ⟨_,
    (pss_cons (ps_fld (pv 0) (pv 2) rfl)
      (pss_cons (ps_fld (pv 0) pe_n rfl)
      (pss_cons (ps_fld (pv 0) pe_dnewK rfl)
      (pss_cons (ps_fld (pv 0) (pe_lst pa_nil) rfl)
      (pss_one (ps_fld (pv 0) (pe_mkOwn G_Strokes hr (pa_cons (pv 1) (pa_cons (pv 3) pa_nil))) rfl)))))), ?_⟩)
  · obtain ⟨a, dx, p, rfl, _⟩ := h
    rfl
  · obtain ⟨a, dx, p, rfl, ho, k⟩ := h
    have fa : ∀ (H : Hp) (o : HO), Fr [a] H (upd H a o) := fun H o => Fr.upd (by simp)
    refine q_fld (ev_var rfl) (ev_var rfl) ho T.c_News T.n_News_bounce (by show 0 < 1000; decide) fun H1 e1 => ?_
    refine q_fld ev_n (ev_var rfl) upd_same T.c_News T.n_News_pressed (by show 1 < 1000; decide) fun H2 e2 => ?_
    have o2 : upd H2 a (.ins CNews dx (putF "pressed" (vn 0) (putF "bounce" (vn p.bounce) []))) a = some (.ins CNews dx [("bounce", vn p.bounce), ("pressed", vn 0)]) := upd_same
    have f2 : Fr [a] H (upd H2 a (.ins CNews dx (putF "pressed" (vn 0) (putF "bounce" (vn p.bounce) [])))) := (((Fr.of e1).trans (fa _ _)).trans (Fr.of e2)).trans (fa _ _)
    generalize upd H2 a (.ins CNews dx (putF "pressed" (vn 0) (putF "bounce" (vn p.bounce) []))) = K2 at o2 f2
    -- last_ups = {}
    show tSeq (sFld K (tVar 0) tDNewK "last_ups") _ _ _ K2
    intro d hd
    have nd : d ≠ a := by
      rintro rfl
      rw [o2] at hd
      cases hd
    refine ⟨.ref a, rfl, a, CNews, dx, _, rfl, (upd_ne nd.symm).trans o2, T.c_News, T.n_News_last_ups, (by show 2 < 1000; decide), ?_⟩
    have o3 : upd (upd K2 d (.dK [])) a (.ins CNews dx (putF "last_ups" (.ref d) [("bounce", vn p.bounce), ("pressed", vn 0)])) a = some (.ins CNews dx [("bounce", vn p.bounce), ("pressed", vn 0), ("last_ups", .ref d)]) := upd_same
    have f3 : Fr [a] H (upd (upd K2 d (.dK [])) a (.ins CNews dx (putF "last_ups" (.ref d) [("bounce", vn p.bounce), ("pressed", vn 0)]))) := (f2.trans (Fr.new hd)).trans (fa _ _)
    have u3 : UpsAt (upd (upd K2 d (.dK [])) a (.ins CNews dx (putF "last_ups" (.ref d) [("bounce", vn p.bounce), ("pressed", vn 0)]))) d noUps 0 := ⟨[], (upd_ne nd).trans upd_same, fun _ => rfl, Nat.le_refl _⟩
    generalize upd (upd K2 d (.dK [])) a (.ins CNews dx (putF "last_ups" (.ref d) [("bounce", vn p.bounce), ("pressed", vn 0)])) = K3 at o3 f3 u3
    refine q_fldL (el_lst ea_nil few) (fun _ _ => ev_var rfl) o3 T.c_News T.n_News_waiting (by show 3 < 1000; decide) fun wA H4 hw e4 h4 => ?_
    have wa : wA ≠ a := ne_lst_ins h4 (e4 _ _ o3)
    have o4 : upd H4 a (.ins CNews dx (putF "waiting" (.ref wA) [("bounce", vn p.bounce), ("pressed", vn 0), ("last_ups", .ref d)])) a = some (.ins CNews dx [("bounce", vn p.bounce), ("pressed", vn 0), ("last_ups", .ref d), ("waiting", .ref wA)]) := upd_same
    have f4 : Fr [a] H (upd H4 a (.ins CNews dx (putF "waiting" (.ref wA) [("bounce", vn p.bounce), ("pressed", vn 0), ("last_ups", .ref d)]))) := (f3.trans (Fr.of e4)).trans (fa _ _)
    have u4 : UpsAt (upd H4 a (.ins CNews dx (putF "waiting" (.ref wA) [("bounce", vn p.bounce), ("pressed", vn 0), ("last_ups", .ref d)]))) d noUps 0 := (u3.ex e4).fr (fa _ _) (by simpa using nd)
    have w4 : upd H4 a (.ins CNews dx (putF "waiting" (.ref wA) [("bounce", vn p.bounce), ("pressed", vn 0), ("last_ups", .ref d)])) wA = some (.lst []) := (upd_ne wa).trans h4
    generalize upd H4 a (.ins CNews dx (putF "waiting" (.ref wA) [("bounce", vn p.bounce), ("pressed", vn 0), ("last_ups", .ref d)])) = K4 at o4 f4 u4 w4
    refine s_fldM (a := a) (ea_cons (ev_var rfl) (ea_cons (ev_var rfl) ea_nil)) (fun _ _ => ev_var rfl) fun x sd H5 e5 hx hsd nx => ?_
    have bx := born_ex (C := CStrokes) hx hsd nx
    refine ⟨x, sd, p, rfl, born_at, fun H6 mA f6 hm s6 => ⟨rfl, ?_⟩⟩
    have ax : a ≠ x := by
      rintro rfl
      rw [e5 _ _ o4] at hx
      cases hx
    have o6 : H6 a = some (.ins CNews dx [("bounce", vn p.bounce), ("pressed", vn 0), ("last_ups", .ref d), ("waiting", .ref wA)]) := f6 _ _ (bx _ _ (e5 _ _ o4)) (by simpa using ax)
    refine ⟨.ref a, rfl, a, CNews, dx, _, rfl, o6, T.c_News, T.n_News_strokes, (by show 4 < 1000; decide), ?_⟩
    have wx : wA ≠ x := by
      rintro rfl
      rw [e5 _ _ w4] at hx
      cases hx
    have dx' : d ≠ x := by
      rintro rfl
      obtain ⟨kvs, g, _⟩ := u4.ex e5
      rw [g] at hx
      cases hx
    have xH : H x = none := f4.free (fresh_back e5 hx) (by simpa using ax.symm)
    have ma : mA ≠ a := ne_lst_ins s6.ls o6
    have mH : H mA = none := f4.free (fresh_back (e5.trans bx) hm) (by simpa using ma)
    have frx : Fr [a] H H6 := by
      intro b o q nb
      refine f6 _ _ (bx _ _ (e5 _ _ (f4 _ _ q nb))) ?_
      intro z
      rw [List.mem_singleton] at z
      subst z
      rw [xH] at q
      cases q
    refine k _ d wA x sd mA (frx.trans (fa _ _)) xH mH (f3.free hw (by simpa using wa)) ⟨upd_same, ?_, ⟨?_, trivial⟩, ?_⟩
    · exact ((u4.ex (e5.trans bx)).fr f6 (by simpa using dx')).fr (fa _ _) (by simpa using nd)
    · exact (upd_ne wa).trans (f6 _ _ (bx _ _ (e5 _ _ w4)) (by simpa using wx))
    · exact s6.fr (fa _ _) (by simpa using ax.symm) (by simpa using ma)
end
end Kx

-- KBoard3
namespace Kx
open PySem PySem.Spec PyProof.Rows L2 Evl
open KeysCalls (keyboardOf)

theorem zip_fst : ∀ {a b : List Nat}, a.length = b.length → (a.zip b).map (fun x => x.1) = a
  | [], [], _ => rfl
  | x :: a, y :: b, h => congrArg (x :: ·) (zip_fst (a := a) (b := b) (by simpa using h))
  | [], _ :: _, h => by cases h
  | _ :: _, [], h => by cases h
theorem zip_snd : ∀ {a b : List Nat}, a.length = b.length → (a.zip b).map (fun x => x.2) = b
  | [], [], _ => rfl
  | x :: a, y :: b, h => congrArg (y :: ·) (zip_snd (a := a) (b := b) (by simpa using h))
  | [], _ :: _, h => by cases h
  | _ :: _, [], h => by cases h
theorem kb_labels {l d : List Nat} {a b r : Nat} (h : l.length = d.length) : bLabels (keyboardOf l d a b r) = l := by
  show ((l.zip d).map _).map _ = l
  rw [List.map_map]
  exact zip_fst h
theorem kb_digits {l d : List Nat} {a b r : Nat} (h : l.length = d.length) : bDigits (keyboardOf l d a b r) = d := by
  show ((l.zip d).map _).map _ = d
  rw [List.map_map]
  refine Eq.trans ?_ (zip_snd h)
  refine List.map_congr_left fun x _ => ?_
  show (if x.2 = 0 then none else some x.2 : Option Nat).getD 0 = x.2
  split
  · rename_i q
    rw [q]
    rfl
  · rfl
theorem kb_size {l d : List Nat} {a b r : Nat} (h : l.length = d.length) : (keyboardOf l d a b r).size = l.length := by
  show ((l.zip d).map _).length = _
  rw [List.length_map, List.length_zip]
  omega
section
variable {P : Program} {w : World} {K : PySem.W.Frag} {mg : Str → Option Value} {base : Heap} {CBoard CNumberedLine CStrokes CNews CPart CPlainLine CHall : Addr}
def spBoardInit (K : PySem.W.Frag) (CB : Addr) : Sp := fun vs H Q _ => ∃ (a dx la da left middle bar : Nat) (labels digits : List Nat), vs = [.ref a, vn left, vn middle, vn bar, .ref la, .ref da] ∧ H a = some (.ins CB dx []) ∧ SqL K H la (vns labels) ∧ SqL K H da (vns digits) ∧
  labels.length = digits.length ∧ (keyboardOf labels digits left middle bar).ok = true ∧
  ∀ (H' : Hp) (lA dA : Addr) (as : List Addr), Fr [a] H H' → H lA = none → H dA = none → (∀ b ∈ as, H b = none) → BoardAt CB H' a (keyboardOf labels digits left middle bar) dx lA dA as → Q .non H'
theorem scBoardInit : FnScope ["self", "left", "middle", "bar", "labels", "digits", "label"] ["self", "left", "middle", "bar", "labels", "digits"] (defScope tBoardInit) := ⟨rfl, rfl, rfl, by decide +kernel, rfl, by decide +kernel, by decide +kernel⟩
theorem SqL.fr {H H' : Hp} {S : List Addr} {b : Addr} {xs : List V} (f : Fr S H H') (h : SqL K H b xs) (n : ∀ s ∈ S, ∀ o, H s = some o → ∃ C dx fs, o = .ins C dx fs) : SqL K H' b xs := by
  rcases h with (h | ⟨o, h⟩) | h
  · refine .inl (.inl (f _ _ h fun z => ?_))
    obtain ⟨C, dx, fs, e⟩ := n _ z _ h
    cases e
  · refine .inl (.inr ⟨o, f _ _ h fun z => ?_⟩)
    obtain ⟨C, dx, fs, e⟩ := n _ z _ h
    cases e
  · exact .inr h
theorem ok_Board_init {f f1 : Addr} {fd fd1 : FuncData} (D : Fun K "__init__" "Board.__init__" tBoardInit f fd) (T : Tx K mg CBoard CNumberedLine CStrokes CNews CPart CPlainLine CHall) (G_utf8 : Ok P w K mg base 1 "utf8" ["character"] spUtf8 f1 fd1) :
    FnOk P w K mg base CX0 3 f fd ["self", "left", "middle", "bar", "labels", "digits"] (spBoardInit K CBoard) := by
  refine D.ok scBoardInit (fun vs H Q E h => ?_) (fun cdv A outer s H vs Q E hr h => ⟨_,
    (pss_cons (ps_fld (pv 0) (pe_callB call_len_seq (by rfl) T.b_len PySem.boot_len (pa_cons (pv 4) pa_nil)) rfl)
      (pss_cons (ps_fld (pv 0) (pv 1) rfl)
      (pss_cons (ps_fld (pv 0) (pe_op on_add (pv 1) (pv 2)) rfl)
      (pss_cons (ps_fld (pv 0) (pe_cmpR on_eq (pv 3) pe_n (nomark _)) rfl)
      (pss_cons (ps_fld (pv 0) (pe_lc (own := [("label", 6)]) (g := gName 6) (by rfl) scBoardInit.nd (pi_list (pv 4)) (blkOk_by (own := [("label", 6)]) (N := ["self", "left", "middle", "bar", "labels", "digits", "label"]) (sc := defScope tBoardInit) (by decide +kernel)) (fun _ _ _ _ _ => (pg_name (i := 6) scBoardInit.nd rfl (Or.inl rfl))) (fun _ _ _ _ _ => pts_nil) (fun _ _ _ _ _ => (pe_own G_utf8 hr (pa_cons (pv 6) pa_nil)))) rfl)
      (pss_one (ps_fld (pv 0) (pe_callTy call_list_of (by rfl) T.b_list (by decide +kernel) (pa_cons (pv 5) pa_nil)) rfl))))))), ?_⟩)
  · obtain ⟨a, dx, la, da, left, middle, bar, labels, digits, rfl, _⟩ := h
    rfl
  · obtain ⟨a, dx, la, da, left, middle, bar, labels, digits, rfl, ho, hL, hD, hlen, hok, k⟩ := h
    have fa : ∀ (H : Hp) (o : HO), Fr [a] H (upd H a o) := fun H o => Fr.upd (by simp)
    have ins0 : ∀ s ∈ [a], ∀ o, H s = some o → ∃ C dx fs, o = HO.ins C dx fs := fun s hs o q => by
      rw [List.mem_singleton] at hs
      subst hs
      rw [ho] at q
      exact ⟨_, _, _, (Option.some.inj q).symm⟩
    have ko := kb_ok hok
    have ks := kb_size (a := left) (b := middle) (r := bar) hlen
    rw [ks] at ko
    refine q_fld (ev_lenN' (ev_var rfl) hL) (ev_var rfl) ho T.c_Board T.n_Board_size (by show 0 < 1000; decide) fun H1 e1 => ?_
    refine q_fld (ev_var rfl) (ev_var rfl) upd_same T.c_Board T.n_Board_middle_start (by show 1 < 1000; decide) fun H2 e2 => ?_
    refine q_fld (evN (n := left) (m := middle) (ev_var rfl) (ev_var rfl) trivial) (ev_var rfl) upd_same T.c_Board T.n_Board_right_start (by show 2 < 1000; decide) fun H3 e3 => ?_
    refine q_fld (evN (n := bar) (m := 1) (ev_var rfl) ev_n trivial) (ev_var rfl) upd_same T.c_Board T.n_Board_has_bar (by show 3 < 1000; decide) fun H4 e4 => ?_
    have f4 : Fr [a] H (upd H4 a (.ins CBoard dx (putF "has_bar" (.bl (decide (bar = 1))) (putF "right_start" (vn (left + middle)) (putF "middle_start" (vn left) (putF "size" (vn labels.length) [])))))) := ((((((((Fr.of e1).trans (fa _ _)).trans (Fr.of e2)).trans (fa _ _)).trans (Fr.of e3)).trans (fa _ _)).trans (Fr.of e4)).trans (fa _ _))
    have o4 : upd H4 a (.ins CBoard dx (putF "has_bar" (.bl (decide (bar = 1))) (putF "right_start" (vn (left + middle)) (putF "middle_start" (vn left) (putF "size" (vn labels.length) []))))) a = some (.ins CBoard dx [("size", vn labels.length), ("middle_start", vn left), ("right_start", vn (left + middle)), ("has_bar", .bl (decide (bar = 1)))]) := upd_same
    generalize upd H4 a (.ins CBoard dx (putF "has_bar" (.bl (decide (bar = 1))) (putF "right_start" (vn (left + middle)) (putF "middle_start" (vn left) (putF "size" (vn labels.length) []))))) = K4 at f4 o4
    have hL4 := SqL.fr f4 hL ins0
    have hD4 := SqL.fr f4 hD ins0
    refine q_fldLL (rows := labels.map u8n) (ell_lc u8n (ev_var rfl) hL4 (by omega) (fun _ => rfl) fun n _ H1 _ => el_call (ea_cons (ev_var rfl) ea_nil) (spL_is fun _ _ => ⟨n, rfl, rfl⟩)) (fun _ _ => ev_var rfl) o4 T.c_Board T.n_Board_labels (by show 4 < 1000; decide) fun lA H5 as hlA e5 h5 hR hF => ?_
    have la' : lA ≠ a := ne_lst_ins h5 (e5 _ _ o4)
    have asa : a ∉ as := fun z => by
      have := (hF a z).1
      rw [o4] at this
      cases this
    have o5 : upd H5 a (.ins CBoard dx (putF "labels" (.ref lA) [("size", vn labels.length), ("middle_start", vn left), ("right_start", vn (left + middle)), ("has_bar", .bl (decide (bar = 1)))])) a = some (.ins CBoard dx [("size", vn labels.length), ("middle_start", vn left), ("right_start", vn (left + middle)), ("has_bar", .bl (decide (bar = 1))), ("labels", .ref lA)]) := upd_same
    have f5 : Fr [a] K4 (upd H5 a (.ins CBoard dx (putF "labels" (.ref lA) [("size", vn labels.length), ("middle_start", vn left), ("right_start", vn (left + middle)), ("has_bar", .bl (decide (bar = 1)))]))) := (Fr.of e5).trans (fa _ _)
    have hR5 : RowsAt (upd H5 a (.ins CBoard dx (putF "labels" (.ref lA) [("size", vn labels.length), ("middle_start", vn left), ("right_start", vn (left + middle)), ("has_bar", .bl (decide (bar = 1)))]))) as (labels.map u8n) := hR.upd fun xs _ => asa
    have l5 : upd H5 a (.ins CBoard dx (putF "labels" (.ref lA) [("size", vn labels.length), ("middle_start", vn left), ("right_start", vn (left + middle)), ("has_bar", .bl (decide (bar = 1)))])) lA = some (.lst (refs as)) := (upd_ne la').trans h5
    generalize upd H5 a (.ins CBoard dx (putF "labels" (.ref lA) [("size", vn labels.length), ("middle_start", vn left), ("right_start", vn (left + middle)), ("has_bar", .bl (decide (bar = 1)))])) = K5 at o5 f5 hR5 l5
    refine s_fldL (el_list (ev_var rfl) (SqL.fr (f4.trans f5) hD ins0)) (fun _ _ => ev_var rfl) o5 T.c_Board T.n_Board_digits (by show 5 < 1000; decide) fun dA H6 hdA e6 h6 => ?_
    have da' : dA ≠ a := ne_lst_ins h6 (e6 _ _ o5)
    refine k _ lA dA as (((f4.trans f5).trans (Fr.of e6)).trans (fa _ _)) (f4.free hlA (by simpa using la')) ((f4.trans f5).free hdA (by simpa using da')) (fun b hb => f4.free (hF b hb).1 (by
      rw [List.mem_singleton]
      rintro rfl
      exact asa hb)) ⟨?_, ?_, ?_, ?_, hok⟩
    · refine upd_same.trans ?_
      unfold bF
      rw [ks]
      have hb : (keyboardOf labels digits left middle bar).bar = decide (bar = 1) := by
        show (bar == 1) = decide (bar = 1)
        by_cases c : bar = 1
        · subst c
          rfl
        · rw [decide_eq_false c]
          exact beq_eq_false_iff_ne.mpr c
      rw [hb]
      rfl
    · exact (upd_ne la').trans (e6 _ _ l5)
    · rw [kb_labels hlen]
      exact (hR5.ex e6).upd fun xs _ => asa
    · rw [kb_digits hlen]
      exact (upd_ne da').trans h6
end
end Kx

-- KOut1
namespace Kx
open PySem PySem.Spec PyProof.Rows L2 Evl

theorem RowsAt.at : ∀ {H : Hp} {as : List Addr} {r : List (List Nat)} {i : Nat} {x : List Nat}, RowsAt H as r → r[i]? = some x → ∃ a, as[i]? = some a ∧ H a = some (.lst (vns x))
  | _, [], [], _, _, _, h => by simp at h
  | _, a :: _, _ :: _, 0, _, ⟨h, _⟩, e => by
    have := Option.some.inj e
    subst this
    exact ⟨a, rfl, h⟩
  | _, _ :: _, _ :: _, i + 1, _, ⟨_, t⟩, e => t.at (i := i) e
  | _, [], _ :: _, _, _, h, _ => h.elim
  | _, _ :: _, [], _, _, h, _ => h.elim
theorem refs_at {as : List Addr} {i : Nat} {a : Addr} (h : as[i]? = some a) : (refs as)[i]? = some (.ref a) := by
  unfold refs
  rw [List.getElem?_map, h]
  rfl
theorem bDig_at {k : Kb} {i : Nat} (h : i < k.size) : (bDigits k)[i]? = some (kDig k i) := by
  have h' : i < k.keys.length := h
  unfold bDigits kDig CdKeys.Keyboard.digitOf
  rw [List.getElem?_map, List.getElem?_eq_getElem h']
  rfl
theorem lab_range {k : Kb} (h : k.ok = true) {i : Nat} (hi : i < k.size) : k.labelOf i < 1114112 := by
  have h' : i < k.keys.length := hi
  have hx : k.keys[i]? = some k.keys[i] := List.getElem?_eq_getElem h'
  have f := fine_at h hx
  unfold CdKeys.Keyboard.labelOf
  rw [hx]
  show k.keys[i].label < 1114112
  unfold CdKeys.keyFine at f
  rw [Bool.and_eq_true] at f
  have f1 := f.1
  split at f1
  · rw [Bool.and_eq_true] at f1
    have := eq_of_beq f1.1
    rw [this]
    decide
  · unfold CdKeys.mayLabel Cd.isShown Cd.isChar at f1
    rw [Bool.and_eq_true, Bool.and_eq_true, Bool.or_eq_true, Bool.and_eq_true, decide_eq_true_eq, decide_eq_true_eq, decide_eq_true_eq] at f1
    have g := f1.1.1
    rcases g with g | g
    · exact Nat.lt_trans g (by decide)
    · exact g.2
theorem bLab_at {k : Kb} (h : k.ok = true) {i : Nat} (hi : i < k.size) : ((bLabels k).map u8n)[i]? = some ((Cd.utf8 (k.labelOf i)).map UInt8.toNat) := by
  have h' : i < k.keys.length := hi
  have e : (bLabels k)[i]? = some (k.labelOf i) := by
    unfold bLabels CdKeys.Keyboard.labelOf
    rw [List.getElem?_map, List.getElem?_eq_getElem h']
    rfl
  rw [List.getElem?_map, e]
  exact congrArg some (u8n_is (lab_range h hi))
theorem utf8_len (c : Nat) : 1 ≤ (Cd.utf8 c).length ∧ (Cd.utf8 c).length ≤ 4 := by
  unfold Cd.utf8
  split
  · exact ⟨Nat.le_refl _, by show 1 ≤ 4; decide⟩
  · split
    · exact ⟨by show 1 ≤ 2; decide, by show 2 ≤ 4; decide⟩
    · split
      · exact ⟨by show 1 ≤ 3; decide, by show 3 ≤ 4; decide⟩
      · exact ⟨by show 1 ≤ 4; decide, by show 4 ≤ 4; decide⟩
theorem markB_len (k : Kb) (d : Bool) (i : Nat) : (markB k d i).length ≤ 4 := by
  unfold markB
  split
  · exact (by show 1 ≤ 4; decide)
  · split
    · rw [List.length_map]
      exact (utf8_len _).2
    · exact Nat.zero_le _
theorem ctStep_len (k : Kb) (d : Bool) (s : List Nat × Bool) (i : Nat) : (ctStep k d s i).1.length ≤ s.1.length + 5 := by
  unfold ctStep
  dsimp only
  have := markB_len k d i
  rw [List.length_append]
  split
  · rw [List.length_append]
    show s.1.length + 1 + _ ≤ _
    omega
  · omega
theorem ctFold_len (k : Kb) (d : Bool) : ∀ (l : List Nat) (s : List Nat × Bool), (l.foldl (ctStep k d) s).1.length ≤ s.1.length + 5 * l.length
  | [], _ => Nat.le_refl _
  | a :: r, s => by
    rw [List.foldl_cons, List.length_cons]
    have := ctFold_len k d r (ctStep k d s a)
    have := ctStep_len k d s a
    omega
theorem keysOf_lt {k : Kb} {c i : Nat} (h : i ∈ k.keysOf c) : i < k.size ∧ c.testBit i = true := by
  unfold CdKeys.Keyboard.keysOf at h
  rw [List.mem_filter, List.mem_range] at h
  exact h
theorem keysOf_len (k : Kb) (c : Nat) : (k.keysOf c).length ≤ k.size := by
  unfold CdKeys.Keyboard.keysOf
  refine Nat.le_trans (List.length_filter_le _ _) ?_
  rw [List.length_range]
  exact Nat.le_refl _
theorem chordB_len {k : Kb} (h : k.ok = true) (c : Nat) : (chordB k c).length ≤ 250 := by
  rw [← chord_fold h c]
  have f := ctFold_len k (k.digits c) (k.keysOf c) ([], (k.keysOf c).any fun i => decide (k.left ≤ i) && decide (i < k.left + k.middle))
  have f' : _ ≤ 0 + 5 * (k.keysOf c).length := f
  have g1 : (k.keysOf c).length ≤ k.size := keysOf_len k c
  have g2 : k.size ≤ 48 := (kb_ok h).2.1
  refine Nat.le_trans f' ?_
  omega
/-- a chord of the keyboard has a key -/
theorem keysOf_ne {k : Kb} {c : Nat} (h : k.has c = true) : ∃ a r, k.keysOf c = a :: r := by
  cases q : k.keysOf c with
  | cons a r => exact ⟨a, r, rfl⟩
  | nil =>
    exfalso
    unfold CdKeys.Keyboard.has at h
    rw [Bool.and_eq_true, decide_eq_true_eq, decide_eq_true_eq] at h
    have z : c = 0 := by
      refine Nat.eq_of_testBit_eq fun i => ?_
      rw [Nat.zero_testBit]
      cases hb : c.testBit i with
      | false => rfl
      | true =>
        have lt : i < k.size := by
          have ge := Nat.ge_two_pow_of_testBit hb
          refine Nat.lt_of_not_le fun z => ?_
          have p := Nat.pow_le_pow_right (n := 2) (by decide) z
          exact absurd (Nat.lt_of_lt_of_le h.2 (Nat.le_trans p ge)) (Nat.lt_irrefl _)
        have : i ∈ k.keysOf c := by
          unfold CdKeys.Keyboard.keysOf
          rw [List.mem_filter, List.mem_range]
          exact ⟨lt, hb⟩
        rw [q] at this
        cases this
    exact absurd z (Nat.ne_of_gt h.1)
/-- the first key is the bar just if the chord has it -/
theorem first_bar {k : Kb} {c a : Nat} {r : List Nat} (h : k.keysOf c = a :: r) (h1 : 1 ≤ k.size) : decide (a = 0) = c.testBit 0 := by
  cases hb : c.testBit 0 with
  | true =>
    have m : 0 ∈ k.keysOf c := by
      unfold CdKeys.Keyboard.keysOf
      rw [List.mem_filter, List.mem_range]
      exact ⟨by omega, hb⟩
    have s := keys_sorted k c
    rw [h] at m s
    rcases List.mem_cons.mp m with q | q
    · exact decide_eq_true q.symm
    · have := (List.pairwise_cons.mp s).1 0 q
      omega
  | false =>
    refine decide_eq_false fun z => ?_
    have m : a ∈ k.keysOf c := by
      rw [h]
      exact List.mem_cons_self
    have := (keysOf_lt m).2
    rw [z, hb] at this
    cases this
theorem digits_is {k : Kb} (hk : k.ok = true) {c a : Nat} {r : List Nat} (h : k.keysOf c = a :: r) : ((k.bar && decide (a = 0)) && (k.keysOf c).any fun i => !decide (kDig k i = 0)) = k.digits c := by
  have ko := kb_ok hk
  rw [first_bar h ko.1, Bool.and_assoc]
  unfold CdKeys.Keyboard.digits
  congr 2
  refine congrArg (fun f => (k.keysOf c).any f) (funext fun i => ?_)
  cases q : k.digitOf i with
  | none =>
    rw [(kDig_zero hk i).mpr q]
    rfl
  | some d =>
    have : ¬ kDig k i = 0 := fun z => by
      have := (kDig_zero hk i).mp z
      rw [q] at this
      cases this
    rw [decide_eq_false this]
    rfl
section
variable {P : Program} {w : World} {K : PySem.W.Frag} {mg : Str → Option Value} {base : Heap} {CBoard CNumberedLine CStrokes CNews CPart CPlainLine CHall : Addr}
/-! ### is_outline -/
def spIsOutline (K : PySem.W.Frag) (CB : Addr) : Sp := spV fun vs H v => ∃ (a b : Addr) (k : Kb) (o : List Nat), vs = [.ref a, .ref b] ∧ IsBoard CB H a k ∧ SqL K H b (vns o) ∧ o.length ≤ 40000 ∧ v = .bl (k.outlineOk o)
theorem scIsOutline : FnScope ["board", "chords", "chord"] ["board", "chords"] (defScope tIsOutline) := ⟨rfl, rfl, rfl, by decide +kernel, rfl, by decide +kernel, by decide +kernel⟩
theorem ok_is_outline {f f1 : Addr} {fd fd1 : FuncData} (D : Raw K mg "is_outline" tIsOutline f fd) (T : Tx K mg CBoard CNumberedLine CStrokes CNews CPart CPlainLine CHall) (G_Board_owns : OkM P w K mg base 2 CBoard "owns" ["self", "chord"] (spOwns CBoard) f1 fd1) :
    Ok P w K mg base 3 "is_outline" ["board", "chords"] (spIsOutline K CBoard) f fd := by
  refine ⟨D.fn.ok scIsOutline (fun vs H Q E h => ?_) (fun cdv A outer s H vs Q E hr h => ⟨_,
    (pss_one (ps_ret (pe_and (pe_chain on_le on_le pe_n (pe_callB call_len_seq (by rfl) T.b_len PySem.boot_len (pa_cons (pv 1) pa_nil)) (pe_gi T.g_MOST_CHORDS)) (pe_one (pe_callB (cr_all rfl) (by rfl) T.b_all (by decide +kernel) (pa_cons (pe_lc (own := [("chord", 2)]) (g := gName 2) (by rfl) scIsOutline.nd (pi_list (pv 1)) (blkOk_by (own := [("chord", 2)]) (N := ["board", "chords", "chord"]) (sc := defScope tIsOutline) (by decide +kernel)) (fun _ _ _ _ _ => (pg_name (i := 2) scIsOutline.nd rfl (Or.inl rfl))) (fun _ _ _ _ _ => pts_nil) (fun _ _ _ _ _ => (pe_ownM G_Board_owns T.c_Board hr (pv 0) (pa_cons (pv 2) pa_nil)))) pa_nil)))))), ?_⟩), D.at_, D.fn.kp, D.fn.binds fun _ _ _ _ _ _ us hl => match us, hl with | [_, _], _ => rfl⟩
  · obtain ⟨v, ⟨a, b, k, o, rfl, _⟩, _⟩ := h
    rfl
  · obtain ⟨v, ⟨a, b, k, o, rfl, hB, hO, hl, rfl⟩, kQ⟩ := h
    obtain ⟨dx, lA, dA, as, hB'⟩ := id hB
    refine s_ret (ev_andV (ev_chain ev_n (ev_lenN' (ev_var rfl) hO) ev_c) fun _ => ev_all (el_bools k.has (ev_var rfl) hO hl (fun _ => rfl) fun n _ H1 e1 => ev_meth (ev_var rfl) (e1 _ _ hB'.ob) rfl (ea_cons (ev_var rfl) ea_nil) (spV_is fun H' e' => ⟨a, k, n, rfl, hB.ex (e1.trans e'), rfl⟩))) fun H1 e1 => ?_
    rw [all_bl, Bool.and_assoc]
    exact kQ H1 e1

/-! ### chord_text -/
def spChordText (CB : Addr) : Sp := spL fun vs H xs => ∃ (a : Addr) (k : Kb) (c : Nat), vs = [.ref a, vn c] ∧ IsBoard CB H a k ∧ k.has c = true ∧ xs = vns (chordB k c)
theorem scChordText : FnScope ["board", "chord", "keys", "numbers", "parted", "text", "key"] ["board", "chord"] (defScope tChordText) := ⟨rfl, rfl, rfl, by decide +kernel, rfl, by decide +kernel, by decide +kernel⟩
theorem ok_chord_text {f f1 f2 : Addr} {fd fd1 fd2 : FuncData} (D : Raw K mg "chord_text" tChordText f fd) (T : Tx K mg CBoard CNumberedLine CStrokes CNews CPart CPlainLine CHall) (G_Board_keys_of : OkM P w K mg base 1 CBoard "keys_of" ["self", "chord"] (spKeysOf CBoard) f1 fd1)
    (G_Board_is_bar : OkM P w K mg base 1 CBoard "is_bar" ["self", "key"] (spIsBar CBoard) f2 fd2) : Ok P w K mg base 3 "chord_text" ["board", "chord"] (spChordText CBoard) f fd := by
  refine ⟨D.fn.ok scChordText (fun vs H Q E h => ?_) (fun cdv A outer s H vs Q E hr h => ⟨_,
    (pss_cons (ps_set (i := 2) scChordText.nd rfl (Or.inl rfl) (pe_ownM G_Board_keys_of T.c_Board hr (pv 0) (pa_cons (pv 1) pa_nil)))
      (pss_cons (ps_set (i := 3) scChordText.nd rfl (Or.inl rfl) (pe_and (pe_ownM G_Board_is_bar T.c_Board hr (pv 0) (pa_cons (pe_ix ix_list (pv 2) pe_n (fun _ _ => rfl)) pa_nil)) (pe_one (pe_callB (cr_any rfl) (by rfl) T.b_any (by decide +kernel) (pa_cons (pe_lc (own := [("key", 6)]) (g := gName 6) (by rfl) scChordText.nd (pi_list (pv 2)) (blkOk_by (own := [("key", 6)]) (N := ["board", "chord", "keys", "numbers", "parted", "text", "key"]) (sc := defScope tChordText) (by decide +kernel)) (fun _ _ _ _ _ => (pg_name (i := 6) scChordText.nd rfl (Or.inl rfl))) (fun _ _ _ _ _ => pts_nil) (fun _ _ _ _ _ => (pe_cmpR on_ne (pe_ix (ix_listK (K := K) rfl) (pe_fldK (K := K) rfl (pv 0) rfl) (pv 6) (fun _ _ => rfl)) pe_n (nomark _)))) pa_nil)))))
      (pss_cons (ps_set (i := 4) scChordText.nd rfl (Or.inl rfl) (pe_callB (cr_any rfl) (by rfl) T.b_any (by decide +kernel) (pa_cons (pe_lc (own := [("key", 6)]) (g := gName 6) (by rfl) scChordText.nd (pi_list (pv 2)) (blkOk_by (own := [("key", 6)]) (N := ["board", "chord", "keys", "numbers", "parted", "text", "key"]) (sc := defScope tChordText) (by decide +kernel)) (fun _ _ _ _ _ => (pg_name (i := 6) scChordText.nd rfl (Or.inl rfl))) (fun _ _ _ _ _ => pts_nil) (fun _ _ _ _ _ => (pe_chain on_le on_lt (pe_fldK (K := K) rfl (pv 0) rfl) (pv 6) (pe_fldK (K := K) rfl (pv 0) rfl)))) pa_nil)))
      (pss_cons (ps_set (i := 5) scChordText.nd rfl (Or.inl rfl) (pe_lst pa_nil))
      (pss_cons (ps_for PassesOwn.never rfl (pi_list (pv 2)) (pg_name (i := 6) scChordText.nd rfl (Or.inl rfl)) (pss_cons (ps_if (PW.pt (pw_and (pt_cmpR on_ge (pv 6) (pe_fld (pv 0) rfl) (nomark _)) (pw_and1 (pt_not (pt_val (pv 4)))))) (pss_cons (ps_expr (pe_bm PySem.F.plainAttrs_list PySem.F.slot_list_append PySem.F.type_list_append mt_append (pv 5) (pa_cons (pe_gi T.g_DASH) pa_nil)))
      (pss_one (ps_set (i := 4) scChordText.nd rfl (Or.inl rfl) pe_bl))) pss_nil)
      (pss_one (ps_if (PW.pt (pw_and (pt_val (pv 3)) (pw_and1 (pt_cmpR on_ne (pe_ix ix_list (pe_fld (pv 0) rfl) (pv 6) (fun _ _ => rfl)) pe_n (nomark _))))) (pss_one (ps_expr (pe_bm PySem.F.plainAttrs_list PySem.F.slot_list_append PySem.F.type_list_append mt_append (pv 5) (pa_cons (pe_ix ix_list (pe_fld (pv 0) rfl) (pv 6) (fun _ _ => rfl)) pa_nil)))) (pss_one (ps_if (pt_not (PW.pt (pw_and (pt_val (pv 3)) (pw_and1 (pt_val (pe_ownM G_Board_is_bar T.c_Board hr (pv 0) (pa_cons (pv 6) pa_nil))))))) (pss_one (ps_expr (pe_bm PySem.F.plainAttrs_list PySem.F.slot_list_extend PySem.F.type_list_extend mt_extend (pv 5) (pa_cons (pe_ix ix_list (pe_fld (pv 0) rfl) (pv 6) (fun _ _ => rfl)) pa_nil)))) pss_nil))))))
      (pss_one (ps_ret (pv 5)))))))), ?_⟩), D.at_, D.fn.kp, D.fn.binds fun _ _ _ _ _ _ us hl => match us, hl with | [_, _], _ => rfl⟩
  · obtain ⟨v, ⟨a, k, c, rfl, _⟩, _⟩ := h
    rfl
  · obtain ⟨v, ⟨a, k, c, rfl, hB, hc, rfl⟩, kQ⟩ := h
    obtain ⟨dx, lA, dA, as, hB'⟩ := id hB
    have hk := hB'.ok
    have ko := kb_ok hk
    obtain ⟨k0, kr, hk0⟩ := keysOf_ne hc
    have kl := keysOf_len k c
    refine q_asgL (el_meth (ev_var rfl) hB'.ob rfl (ea_cons (ev_var rfl) ea_nil) (spL_is fun H' e' => ⟨a, k, c, rfl, hB.ex e', rfl⟩)) fun kA H1 hkA e1 h1 => ?_
    have hks : SqL K H1 kA (vns (k.keysOf c)) := sq_of h1
    have h00 : (k.keysOf c)[0]? = some k0 := by rw [hk0]; rfl
    refine q_asg (v := .bl (k.digits c)) (ev_is (ev_andV (ev_meth (ev_var rfl) (e1 _ _ hB'.ob) rfl (ea_cons (ev_ixN (ev_var rfl) ev_n hks h00) ea_nil) (spV_is fun H' e' => ⟨a, k, k0, rfl, hB.ex (e1.trans e'), rfl⟩)) fun _ =>
      ev_any (el_bools (fun i => !decide (kDig k i = 0)) (ev_var rfl) hks (by omega) (fun _ => rfl) fun n hn H2 e2 => evN (n := kDig k n) (m := 0) (ev_ixN (ev_fld (ev_var rfl) ((e1.trans e2) _ _ hB'.ob) T.c_Board T.n_Board_digits rfl) (ev_var rfl) (sq_of ((e1.trans e2) _ _ hB'.ds)) (bDig_at (keysOf_lt hn).1)) ev_n trivial)) (by rw [any_bl, digits_is hk hk0])) fun H2 e2 => ?_
    have e12 := e1.trans e2
    refine q_asg (ev_any (el_bools (fun i => decide (k.left ≤ i) && decide (i < k.left + k.middle)) (ev_var rfl) (ex_l e2 hks) (by omega) (fun _ => rfl) fun n hn H3 e3 => ev_chainLt (ev_fld (ev_var rfl) ((e12.trans e3) _ _ hB'.ob) T.c_Board T.n_Board_middle_start rfl) (ev_var rfl) (ev_fld (ev_var rfl) ((e12.trans e3) _ _ hB'.ob) T.c_Board T.n_Board_right_start rfl))) fun H3 e3 => ?_
    rw [any_bl]
    have fin := chord_fold hk c
    generalize hp0 : ((k.keysOf c).any fun i => decide (k.left ≤ i) && decide (i < k.left + k.middle)) = p0 at fin
    refine q_asgL (el_lst ea_nil few) fun tA H4 htA e4 h4 => ?_
    have e14 := (e12.trans e3).trans e4
    have tA0 : H tA = none := fresh_back (e12.trans e3) htA
    refine q_forLn (ev_var rfl) (ex_l ((e2.trans e3).trans e4) hks) (fun i σ H' => ∃ v6 : Option V, σ = [some (.ref a), some (vn c), some (.ref kA), some (.bl (k.digits c)), some (.bl (((k.keysOf c).take i).foldl (ctStep k (k.digits c)) ([], p0)).2), some (.ref tA), v6] ∧ Evl.Ex H H' ∧ H' kA = some (.lst (vns (k.keysOf c))) ∧
      H' tA = some (.lst (vns (((k.keysOf c).take i).foldl (ctStep k (k.digits c)) ([], p0)).1))) (fun H5 e5 => ⟨none, rfl, e14.trans e5, e5 _ _ (((e2.trans e3).trans e4) _ _ h1), e5 _ _ h4⟩) (fun i σ H' _ ⟨_, _, _, hh, _⟩ => sq_of hh) ?_ ?_
    · rintro i x σ H' hi ⟨v6, rfl, eH, hkA', hT⟩
      obtain ⟨key, hkey, rfl⟩ := vns_get hi
      have km := List.mem_iff_getElem?.mpr ⟨i, hkey⟩
      have klt := (keysOf_lt km).1
      have step : ((k.keysOf c).take (i + 1)).foldl (ctStep k (k.digits c)) ([], p0) = ctStep k (k.digits c) (((k.keysOf c).take i).foldl (ctStep k (k.digits c)) ([], p0)) key := by
        rw [take_more hkey, List.foldl_append]
        rfl
      have sl := ctFold_len k (k.digits c) ((k.keysOf c).take i) ([], p0)
      have tl : ((k.keysOf c).take i).length ≤ 48 := by rw [List.length_take]; omega
      have z0 : (([], p0) : List Nat × Bool).1.length = 0 := rfl
      generalize ((k.keysOf c).take i).foldl (ctStep k (k.digits c)) ([], p0) = st at step hT sl
      have ne : kA ≠ tA := by
        rintro rfl
        have := ((e2.trans e3)) _ _ h1
        rw [this] at htA
        cases htA
      -- the mark, behind the dash
      have go : ∀ (D' : Ends) (H5 : Hp) (t : List Nat) (p1 : Bool), Evl.Ex H H5 → H5 kA = some (.lst (vns (k.keysOf c))) → H5 tA = some (.lst (vns t)) → t.length ≤ 300 →
          (∀ H9, Evl.Ex H H9 → H9 kA = some (.lst (vns (k.keysOf c))) → H9 tA = some (.lst (vns (t ++ markB k (k.digits c) key))) → D'.nx [some (.ref a), some (vn c), some (.ref kA), some (.bl (k.digits c)), some (.bl p1), some (.ref tA), some (vn key)] H9) →
          tIfS (tAnd (tB (tVar 3)) (tTest (tOp rNeN (tOp (rIxL K) (tFld K (tVar 0) "digits") (tVar 6)) (tC (vn 0))))) (tDrop (tBM K "list" rAppend (tVar 5) (tCons (tOp (rIxL K) (tFld K (tVar 0) "digits") (tVar 6)) tNil)))
            (tIfS (tNot (tAnd (tB (tVar 3)) (tB (tMeth CBoard "is_bar" (spIsBar CBoard) [] E0 (tVar 0) (tCons (tVar 6) tNil))))) (tDrop (tBM K "list" rExtend (tVar 5) (tCons (tOp (rIxL K) (tFld K (tVar 0) "labels") (tVar 6)) tNil))) tNext) D'
            [some (.ref a), some (vn c), some (.ref kA), some (.bl (k.digits c)), some (.bl p1), some (.ref tA), some (vn key)] H5 := by
        intro D' H5 t p1 e5 hk5 hT5 tl5 fin'
        have dg : ∀ H6, Evl.Ex H5 H6 → Ev (tOp (rIxL K) (tFld K (tVar 0) "digits") (tVar 6)) [some (.ref a), some (vn c), some (.ref kA), some (.bl (k.digits c)), some (.bl p1), some (.ref tA), some (vn key)] H6 (vn (kDig k key)) := fun H6 e6 =>
          ev_ixN (ev_fld (ev_var rfl) ((e5.trans e6) _ _ hB'.ob) T.c_Board T.n_Board_digits rfl) (ev_var rfl) (sq_of ((e5.trans e6) _ _ hB'.ds)) (bDig_at klt)
        refine s_if (et_and (et_B (b := k.digits c) (ev_var rfl)) fun _ => etN (g := fun n m => !decide (n = m)) (dg H5 (Evl.Ex.refl _)) ev_n trivial) (fun b1 H6 e6 => ?_) (fun b1 H6 e6 => ?_)
        · refine s_app (e6 _ _ hT5) (ev_var rfl) (dg H6 e6) (by rw [vns_length]; omega) fun H7 e7 => ?_
          refine fin' _ (((e5.trans e6).trans e7).mut tA0) ((upd_ne ne).trans ((e6.trans e7) _ _ hk5)) (upd_same.trans ?_)
          have m : markB k (k.digits c) key = [kDig k key] := if_pos b1
          rw [m, vns_append]
          rfl
        · refine s_when (et_not (et_and (et_B (b := k.digits c) (ev_var rfl)) fun _ => et_B (ev_meth (ev_var rfl) ((e5.trans e6) _ _ hB'.ob) rfl (ea_cons (ev_var rfl) ea_nil) (spV_is fun H' e' => ⟨a, k, key, rfl, hB.ex ((e5.trans e6).trans e'), rfl⟩)))) (fun b2 H7 e7 => ?_) (fun b2 H7 e7 => ?_)
          · have e57 := (e5.trans e6).trans e7
            obtain ⟨la, hla, hlr⟩ := hB'.rows.at (bLab_at hk klt)
            have ul := (utf8_len (k.labelOf key)).2
            refine s_ext (b := la) (ys := vns ((Cd.utf8 (k.labelOf key)).map UInt8.toNat)) ((e6.trans e7) _ _ hT5) (ev_var rfl) (ev_op (x := .ref lA) (y := vn key) (ev_fld (ev_var rfl) (e57 _ _ hB'.ob) T.c_Board T.n_Board_labels rfl) (ev_var rfl) (rv_ixL (sq_of (e57 _ _ hB'.ls)) (atI_at (refs_at hla)))) (e57 _ _ hlr) (by rw [vns_length, vns_length, List.length_map]; omega) fun H8 e8 => ?_
            refine fin' _ ((e57.trans e8).mut tA0) ((upd_ne ne).trans (((e6.trans e7).trans e8) _ _ hk5)) (upd_same.trans ?_)
            have m : markB k (k.digits c) key = (Cd.utf8 (k.labelOf key)).map UInt8.toNat := (if_neg (by rw [b1]; decide)).trans (if_pos b2)
            rw [m, vns_append]
          · have m : markB k (k.digits c) key = [] := (if_neg (by rw [b1]; decide)).trans (if_neg (by rw [b2]; decide))
            refine fin' _ ((e5.trans e6).trans e7) ((e6.trans e7) _ _ hk5) ?_
            rw [m, List.append_nil]
            exact (e6.trans e7) _ _ hT5
      refine q_when (et_and (etN (g := fun n m => decide (m ≤ n)) (n := key) (m := k.left + k.middle) (ev_var rfl) (ev_fld (ev_var rfl) (eH _ _ hB'.ob) T.c_Board T.n_Board_right_start rfl) trivial) fun _ => et_not (et_B (b := st.2) (ev_var rfl))) (fun b1 H5 e5 => ?_) (fun b1 H5 e5 => ?_)
      · refine q_app (e5 _ _ hT) (ev_var rfl) ev_c (by rw [vns_length]; omega) fun H6 e6 => ?_
        refine s_asg ev_c fun H7 e7 => ?_
        have tl1 : (st.1 ++ [45]).length ≤ 300 := by
          rw [List.length_append]
          show _ + 1 ≤ 300
          omega
        refine go _ H7 (st.1 ++ [45]) true ((((eH.trans e5).trans e6).mut tA0).trans e7) (e7 _ _ ((upd_ne ne).trans ((e5.trans e6) _ _ hkA'))) (e7 _ _ (upd_same.trans (by rw [vns_append]; rfl))) tl1 fun H9 g1 g2 g3 => ?_
        have cs : ctStep k (k.digits c) st key = (st.1 ++ [45] ++ markB k (k.digits c) key, true) := by
          unfold ctStep
          rw [if_pos b1]
          rw [Bool.and_eq_true] at b1
          rw [b1.1, Bool.or_true]
        refine ⟨some (vn key), ?_, g1, g2, ?_⟩
        · rw [step, cs]
        · rw [step, cs]
          exact g3
      · refine go _ H5 st.1 st.2 (eH.trans e5) (e5 _ _ hkA') (e5 _ _ hT) (by omega) fun H9 g1 g2 g3 => ?_
        have cs : ctStep k (k.digits c) st key = (st.1 ++ markB k (k.digits c) key, st.2) := by
          unfold ctStep
          rw [if_neg (by rw [b1]; decide)]
          congr 1
          cases h1 : st.2 with
          | true => rfl
          | false =>
            rw [h1] at b1
            simpa using b1
        refine ⟨some (vn key), ?_, g1, g2, ?_⟩
        · rw [step, cs]
        · rw [step, cs]
          exact g3
    · rintro σ H' ⟨v6, rfl, eH, hkA', hT⟩
      rw [vns_length, List.take_length] at hT
      rw [fin] at hT
      refine s_ret (ev_var rfl) fun H5 e5 => ?_
      exact kQ tA H5 tA0 (eH.trans e5) (e5 _ _ hT)
end
end Kx

-- KOut2
namespace Kx
open PySem PySem.Spec PyProof.Rows L2 Evl

/-! ### outlines' texts -/
def outB (k : Kb) (o : List Nat) : List Nat := (Cd.bytesOf (k.outline o)).map UInt8.toNat
theorem outline_snoc (k : Kb) (c : Nat) : ∀ o : List Nat, o ≠ [] → k.outline (o ++ [c]) = k.outline o ++ (CdKeys.SLASH :: k.text c)
  | [], h => absurd rfl h
  | [a], _ => rfl
  | a :: b :: r, _ => by
    have ih := outline_snoc k c (b :: r) (by simp)
    show k.text a ++ (CdKeys.SLASH :: k.outline ((b :: r) ++ [c])) = k.text a ++ (CdKeys.SLASH :: k.outline (b :: r)) ++ _
    rw [ih, List.append_assoc]
    rfl
theorem outB_snoc (k : Kb) (c : Nat) (o : List Nat) : outB k (o ++ [c]) = (if 0 < o.length then outB k o ++ [47] else outB k o) ++ chordB k c := by
  cases o with
  | nil => rfl
  | cons a r =>
    rw [if_pos (by simp)]
    unfold outB
    rw [outline_snoc k c (a :: r) (by simp)]
    unfold Cd.bytesOf chordB Cd.bytesOf
    rw [List.flatMap_append, List.flatMap_cons, List.map_append, List.map_append, List.append_assoc]
    rfl
theorem outB_len {k : Kb} (h : k.ok = true) : ∀ o : List Nat, (outB k o).length ≤ 251 * o.length
  | [] => Nat.le_refl _
  | [a] => by
    have := chordB_len h a
    show (chordB k a).length ≤ 251 * 1
    omega
  | a :: b :: r => by
    have ih := outB_len h (b :: r)
    have c := chordB_len h a
    have e : outB k (a :: b :: r) = chordB k a ++ (47 :: outB k (b :: r)) := by
      unfold outB chordB
      show (Cd.bytesOf (k.text a ++ (CdKeys.SLASH :: k.outline (b :: r)))).map _ = _
      unfold Cd.bytesOf
      rw [List.flatMap_append, List.map_append, List.flatMap_cons, List.map_append]
      rfl
    have l : (a :: b :: r).length = (b :: r).length + 1 := rfl
    rw [e, l, List.length_append, List.length_cons]
    omega
section
variable {P : Program} {w : World} {K : PySem.W.Frag} {mg : Str → Option Value} {base : Heap} {CBoard CNumberedLine CStrokes CNews CPart CPlainLine CHall : Addr}
theorem s_forEnum {σ : L2.St} {H : Hp} {D : Ends} {tu : TS} {ta : TA} {g : TG} {a : Addr} {xs : List V} (h : EvA ta σ H [.ref a]) (hx : SqL K H a xs) (Pv : Nat → L2.St → Hp → Prop) (h0 : ∀ H1, Evl.Ex H H1 → Pv 0 σ H1)
    (hG : ∀ i σ H, i ≤ xs.length → Pv i σ H → SqL K H a xs)
    (hs : ∀ i x σ H H', i < xs.length → Pv i σ H → YPair (fun i => some (.int (i : Nat))) (fun i => xs[i]?) i H x H' → g x σ H' fun σ2 H2 => tu { D with nx := Pv (i + 1), ct := Pv (i + 1), bk := D.nx } σ2 H2) (hd : ∀ σ H, Pv xs.length σ H → D.nx σ H) : tFor (iEnum K ta) g tu D σ H :=
  h H (Evl.Ex.refl H) _ fun H1 e => ⟨a, xs, rfl, ex_l e hx, for_it walk_enum Pv (h0 H1 e) hG hs hd⟩
theorem q_forEnum {σ : L2.St} {H : Hp} {D : Ends} {tu tz : TS} {ta : TA} {g : TG} {a : Addr} {xs : List V} (h : EvA ta σ H [.ref a]) (hx : SqL K H a xs) (Pv : Nat → L2.St → Hp → Prop) (h0 : ∀ H1, Evl.Ex H H1 → Pv 0 σ H1)
    (hG : ∀ i σ H, i ≤ xs.length → Pv i σ H → SqL K H a xs)
    (hs : ∀ i x σ H H', i < xs.length → Pv i σ H → YPair (fun i => some (.int (i : Nat))) (fun i => xs[i]?) i H x H' → g x σ H' fun σ2 H2 => tu { D with nx := Pv (i + 1), ct := Pv (i + 1), bk := tz D } σ2 H2) (hd : ∀ σ H, Pv xs.length σ H → tz D σ H) : tSeq (tFor (iEnum K ta) g tu) tz D σ H :=
  s_forEnum (D := { D with nx := tz D }) h hx Pv h0 hG hs hd
def spOutlineText (K : PySem.W.Frag) (CB : Addr) : Sp := spL fun vs H xs => ∃ (a b : Addr) (k : Kb) (o : List Nat), vs = [.ref a, .ref b] ∧ IsBoard CB H a k ∧ SqL K H b (vns o) ∧ k.outlineOk o = true ∧ xs = vns (outB k o)
theorem scOutlineText : FnScope ["board", "chords", "text", "index", "chord"] ["board", "chords"] (defScope tOutlineText) := ⟨rfl, rfl, rfl, by decide +kernel, rfl, by decide +kernel, by decide +kernel⟩
theorem ok_outline_text {f f1 : Addr} {fd fd1 : FuncData} (D : Raw K mg "outline_text" tOutlineText f fd) (T : Tx K mg CBoard CNumberedLine CStrokes CNews CPart CPlainLine CHall) (G_chord_text : Ok P w K mg base 3 "chord_text" ["board", "chord"] (spChordText CBoard) f1 fd1) :
    Ok P w K mg base 4 "outline_text" ["board", "chords"] (spOutlineText K CBoard) f fd := by
  refine ⟨D.fn.ok scOutlineText (fun vs H Q E h => ?_) (fun cdv A outer s H vs Q E hr h => ⟨_,
    (pss_cons (ps_set (i := 2) scOutlineText.nd rfl (Or.inl rfl) (pe_lst pa_nil))
      (pss_cons (ps_for PassesOwn.never rfl (pi_enum (by rfl) T.b_enumerate (pa_cons (pv 1) pa_nil)) (pg_tup rfl (pgs_cons (pg_name (i := 3) scOutlineText.nd rfl (Or.inl rfl)) (pgs_cons (pg_name (i := 4) scOutlineText.nd rfl (Or.inl rfl)) pgs_nil))) (pss_cons (ps_if (pt_cmpR on_gt (pv 3) pe_n (nomark _)) (pss_one (ps_expr (pe_bm PySem.F.plainAttrs_list PySem.F.slot_list_append PySem.F.type_list_append mt_append (pv 2) (pa_cons (pe_gi T.g_SLASH) pa_nil)))) pss_nil)
      (pss_one (ps_expr (pe_bm PySem.F.plainAttrs_list PySem.F.slot_list_extend PySem.F.type_list_extend mt_extend (pv 2) (pa_cons (pe_own G_chord_text hr (pa_cons (pv 0) (pa_cons (pv 4) pa_nil))) pa_nil))))))
      (pss_one (ps_ret (pv 2))))), ?_⟩), D.at_, D.fn.kp, D.fn.binds fun _ _ _ _ _ _ us hl => match us, hl with | [_, _], _ => rfl⟩
  · obtain ⟨v, ⟨a, b, k, o, rfl, _⟩, _⟩ := h
    rfl
  · obtain ⟨v, ⟨a, b, k, o, rfl, hB, hO, hok, rfl⟩, kQ⟩ := h
    obtain ⟨dx, lA, dA, as, hB'⟩ := id hB
    have hk := hB'.ok
    have ok' := hok
    unfold CdKeys.Keyboard.outlineOk at ok'
    rw [Bool.and_eq_true, Bool.and_eq_true, decide_eq_true_eq, decide_eq_true_eq] at ok'
    have ol : o.length ≤ 10 := ok'.2.1
    have oall := ok'.2.2
    rw [List.all_eq_true] at oall
    refine q_asgL (el_lst ea_nil few) fun tA H1 htA e1 h1 => ?_
    refine q_forEnum (ea_cons (ev_var (v := .ref b) rfl) ea_nil) (ex_l e1 hO) (fun i σ H' => ∃ v3 v4 : Option V, σ = [some (.ref a), some (.ref b), some (.ref tA), v3, v4] ∧ Evl.Ex H H' ∧ H' tA = some (.lst (vns (outB k (o.take i))))) (fun H2 e2 => ⟨none, none, rfl, e1.trans e2, e2 _ _ h1⟩)
      (fun i σ H' _ ⟨_, _, _, eH, _⟩ => ex_l eH hO) ?_ ?_
    · rintro i x σ H' H'' hi ⟨v3, v4, rfl, eH, hT⟩ ⟨Tp, x, y, rfl, hTp, rfl, hx, hy⟩
      have ex := Option.some.inj hx
      subst ex
      obtain ⟨c, hc, rfl⟩ := vns_get hy
      rw [vns_length] at hi
      have tl : (o.take i).length = i := by rw [List.length_take]; omega
      have sn := outB_snoc k c (o.take i)
      rw [← take_more hc, tl] at sn
      have bl := outB_len hk (o.take i)
      rw [tl] at bl
      have cl := chordB_len hk c
      have ne : tA ≠ Tp := ne_of_none hT hTp
      refine ⟨Tp, _, rfl, st_of upd_same, rfl, _, _, rfl, _, _, rfl, rfl, ?_⟩
      have hT2 := (upd_ne (o := .tup [.int (i : Nat), vn c]) ne).trans hT
      have eH2 : Evl.Ex H (upd H' Tp (.tup [.int (i : Nat), vn c])) := eH.trans (Evl.Ex.new hTp)
      generalize upd H' Tp (.tup [.int (i : Nat), vn c]) = H2 at hT2 eH2
      have go : ∀ (D' : Ends) (H5 : Hp) (t : List Nat), Evl.Ex H H5 → H5 tA = some (.lst (vns t)) → t.length ≤ 3000 → (∀ H9, Evl.Ex H H9 → H9 tA = some (.lst (vns (t ++ chordB k c))) → D'.nx [some (.ref a), some (.ref b), some (.ref tA), some (vn i), some (vn c)] H9) →
          tDrop (tBM K "list" rExtend (tVar 2) (tCons (tCall (spChordText CBoard) [] E0 (tCons (tVar 0) (tCons (tVar 4) tNil))) tNil)) D' [some (.ref a), some (.ref b), some (.ref tA), some (vn i), some (vn c)] H5 := by
        intro D' H5 t e5 h5 l5 fin
        refine s_extL h5 (ev_var rfl) (el_call (ea_cons (ev_var rfl) (ea_cons (ev_var rfl) ea_nil)) (spL_is fun H' e' => ⟨a, k, c, rfl, hB.ex (e5.trans e'), oall c (List.mem_iff_getElem?.mpr ⟨i, hc⟩), rfl⟩)) (by rw [vns_length, vns_length]; omega) fun H6 e6 => ?_
        exact fin _ ((e5.trans e6).mut (fresh_back (Evl.Ex.refl _) htA)) (upd_same.trans (by rw [vns_append]))
      refine q_when (etN (g := fun n m => decide (m < n)) (n := i) (m := 0) (ev_var rfl) ev_n trivial) (fun b1 H3 e3 => ?_) (fun b1 H3 e3 => ?_)
      · have ip := of_decide_eq_true b1
        rw [if_pos ip] at sn
        refine s_app (e3 _ _ hT2) (ev_var rfl) ev_c (by rw [vns_length]; omega) fun H4 e4 => ?_
        refine go _ _ (outB k (o.take i) ++ [47]) (((eH2.trans e3).trans e4).mut htA) (upd_same.trans (by rw [vns_append]; rfl)) (by rw [List.length_append]; show _ + 1 ≤ _; omega) fun H9 g1 g2 => ⟨some (vn i), some (vn c), rfl, g1, ?_⟩
        rw [sn]
        exact g2
      · have ip := of_decide_eq_false b1
        rw [if_neg ip] at sn
        refine go _ _ (outB k (o.take i)) (eH2.trans e3) (e3 _ _ hT2) (by omega) fun H9 g1 g2 => ⟨some (vn i), some (vn c), rfl, g1, ?_⟩
        rw [sn]
        exact g2
    · rintro σ H' ⟨v3, v4, rfl, eH, hT⟩
      rw [vns_length, List.take_length] at hT
      refine s_ret (ev_var rfl) fun H5 e5 => ?_
      exact kQ tA H5 htA (eH.trans e5) (e5 _ _ hT)

/-! ### shared_length -/
def spSharedLength (K : PySem.W.Frag) : Sp := spV fun vs H v => ∃ (a b : Addr) (t m : List Nat) (p : Nat), vs = [.ref a, vn p, .ref b] ∧ SqL K H a (vns t) ∧ SqL K H b (vns m) ∧ v = vn (sharedL (t.drop p) m)
theorem scSharedLength : FnScope ["text", "place", "mark", "length"] ["text", "place", "mark"] (defScope tSharedLength) := ⟨rfl, rfl, rfl, by decide +kernel, rfl, by decide +kernel, by decide +kernel⟩
theorem q_augN {i : Nat} {σ : L2.St} {H : Hp} {te : TE} {D : Ends} {tz : TS} {n m : Nat} (hx : σ[i]? = some (some (vn n))) (h : Ev te σ H (vn m)) (k : ∀ H1, Evl.Ex H H1 → tz D (σ.set i (some (vn (n + m)))) H1) : tSeq (tAug i te (ipI fun a b => a + b)) tz D σ H := q_aug hx h k
theorem s_augN {i : Nat} {σ : L2.St} {H : Hp} {te : TE} {D : Ends} {n m : Nat} (hx : σ[i]? = some (some (vn n))) (h : Ev te σ H (vn m)) (k : ∀ H1, Evl.Ex H H1 → D.nx (σ.set i (some (vn (n + m)))) H1) : tAug i te (ipI fun a b => a + b) D σ H := s_aug hx h k
theorem ok_shared_length {f : Addr} {fd : FuncData} (D : Raw K mg "shared_length" tSharedLength f fd) (T : Tx K mg CBoard CNumberedLine CStrokes CNews CPart CPlainLine CHall) : Ok P w K mg base 1 "shared_length" ["text", "place", "mark"] (spSharedLength K) f fd := by
  refine ⟨D.fn.ok scSharedLength (fun vs H Q E h => ?_) (fun cdv A outer s H vs Q E hr h => ⟨_,
    (pss_cons (ps_set (i := 3) scSharedLength.nd rfl (Or.inl rfl) pe_n)
      (pss_cons (ps_while PassesOwn.never (PW.pt (pw_and (pt_cmpR on_lt (pv 3) (pe_callB call_len_seq (by rfl) T.b_len PySem.boot_len (pa_cons (pv 2) pa_nil)) (nomark _)) (pw_and (pt_cmpR on_lt (pe_op on_add (pv 1) (pv 3)) (pe_callB call_len_seq (by rfl) T.b_len PySem.boot_len (pa_cons (pv 0) pa_nil)) (nomark _)) (pw_and1 (pt_cmpR on_eq (pe_ix ix_list (pv 0) (pe_op on_add (pv 1) (pv 3)) (fun _ _ => rfl)) (pe_ix ix_list (pv 2) (pv 3) (fun _ _ => rfl)) (nomark _)))))) (pss_one (ps_aug (i := 3) scSharedLength.nd rfl (Or.inl rfl) pe_n ip_add)))
      (pss_one (ps_ret (pv 3))))), ?_⟩), D.at_, D.fn.kp, D.fn.binds fun _ _ _ _ _ _ us hl => match us, hl with | [_, _, _], _ => rfl⟩
  · obtain ⟨v, ⟨a, b, t, m, p, rfl, _⟩, _⟩ := h
    rfl
  · obtain ⟨v, ⟨a, b, t, m, p, rfl, hA, hB, rfl⟩, kQ⟩ := h
    refine q_asg ev_n fun H1 e1 => ?_
    refine q_while (fun z σ H' => ∃ n, σ = [some (.ref a), some (vn p), some (.ref b), some (vn n)] ∧ Evl.Ex H H' ∧ n ≤ sharedL (t.drop p) m ∧ z = m.length - n) m.length ⟨0, rfl, e1, Nat.zero_le _, rfl⟩ ?_
    rintro z σ H' ⟨n, rfl, eH, hn, rfl⟩
    have st := shared_step n (t.drop p) m hn
    have hA' := ex_l eH hA
    have hB' := ex_l eH hB
    have le := sharedL_le (t.drop p) m
    have ld : (t.drop p).length = t.length - p := List.length_drop
    refine ⟨decide (n < m.length) && (decide (p + n < t.length) && decide (t.getD (p + n) 0 = m.getD n 0)), ?_, fun hb H2 e2 => ?_, fun hb H2 e2 => ?_⟩
    · refine et_and (etN (g := fun n m => decide (n < m)) (n := n) (m := m.length) (ev_var rfl) (ev_lenN' (ev_var rfl) hB') trivial) fun h1 => et_and (etN (g := fun n m => decide (n < m)) (n := p + n) (m := t.length) (evN (ev_var rfl) (ev_var rfl) trivial) (ev_lenN' (ev_var rfl) hA') trivial) fun h2 => ?_
      have g1 : m[n]? = some (m.getD n 0) := by
        rw [List.getD_eq_getElem?_getD, List.getElem?_eq_getElem (of_decide_eq_true h1)]
        rfl
      have g2 : t[p + n]? = some (t.getD (p + n) 0) := by
        rw [List.getD_eq_getElem?_getD, List.getElem?_eq_getElem (of_decide_eq_true h2)]
        rfl
      exact etN (g := fun n m => decide (n = m)) (n := t.getD (p + n) 0) (m := m.getD n 0) (ev_ixN (i := p + n) (ev_var rfl) (evN (ev_var rfl) (ev_var rfl) trivial) hA' g2) (ev_ixN (ev_var rfl) (ev_var rfl) hB' g1) trivial
    · rw [Bool.and_eq_true, Bool.and_eq_true, decide_eq_true_eq, decide_eq_true_eq, decide_eq_true_eq] at hb
      have lt := st.mpr ⟨hb.1, by omega, m.getD n 0, by
        rw [List.getElem?_drop, ← hb.2.2, List.getD_eq_getElem?_getD, List.getElem?_eq_getElem hb.2.1]
        rfl, by
        rw [List.getD_eq_getElem?_getD, List.getElem?_eq_getElem hb.1]
        rfl⟩
      refine ⟨_, fun σ2 H3 h => h, s_augN rfl ev_n fun H3 e3 => ?_⟩
      exact ⟨m.length - (n + 1), by omega, n + 1, rfl, (eH.trans e2).trans e3, lt, rfl⟩
    · have eq : n = sharedL (t.drop p) m := by
        refine Nat.le_antisymm hn (Nat.le_of_not_lt fun q => ?_)
        obtain ⟨q1, q2, x, q3, q4⟩ := st.mp q
        have t1 : decide (n < m.length) = true := decide_eq_true q1
        have t2 : decide (p + n < t.length) = true := decide_eq_true (by omega)
        have t3 : decide (t.getD (p + n) 0 = m.getD n 0) = true := by
          rw [List.getElem?_drop] at q3
          rw [List.getD_eq_getElem?_getD, List.getD_eq_getElem?_getD, q3, q4]
          exact decide_eq_true rfl
        rw [t1, t2, t3] at hb
        cases hb
      rw [eq]
      exact s_ret (ev_var rfl) fun H3 e3 => kQ H3 ((eH.trans e2).trans e3)
end
end Kx

-- KPart
namespace Kx
open PySem PySem.Spec PyProof.Rows L2 Evl

/-! ### Part: how it lies in the heap -/
def pF (bA : Addr) (p : PartM) : List (Str × V) := [("board", .ref bA), ("chord", vn p.chord), ("lowest", vn p.lowest), ("right_open", .bl p.ro), ("settled", vn p.settled), ("complete", .bl p.complete)]
structure PartAt (CP CB : Addr) (H : Hp) (a bA : Addr) (k : Kb) (p : PartM) (dx : Addr) : Prop where
  ob : H a = some (.ins CP dx (pF bA p))
  bd : IsBoard CB H bA k
theorem PartAt.ex {CP CB : Addr} {H H' : Hp} {a bA dx : Addr} {k : Kb} {p : PartM} (e : Evl.Ex H H') (h : PartAt CP CB H a bA k p dx) : PartAt CP CB H' a bA k p dx := ⟨e _ _ h.ob, h.bd.ex e⟩
/-- a board stays where an object that's no board (a part, an instance of another class) changes -/
theorem IsBoard.frI {CB C : Addr} {H H' : Hp} {a b dx : Addr} {fs : List (Str × V)} {k : Kb} (f : Fr [a] H H') (h : IsBoard CB H b k) (ha : H a = some (.ins C dx fs)) (n : CB ≠ C) : IsBoard CB H' b k := by
  obtain ⟨d, lA, dA, as, hB⟩ := h
  have go : ∀ x o, H x = some o → (∀ dx fs, o ≠ HO.ins C dx fs) → H' x = some o := fun x o hx ho => f x o hx fun z => by
    rw [List.mem_singleton] at z
    subst z
    rw [ha] at hx
    exact ho _ _ (Option.some.inj hx).symm
  refine ⟨d, lA, dA, as, go _ _ hB.ob fun dx fs z => ?_, go _ _ hB.ls fun _ _ z => (by cases z), ?_, go _ _ hB.ds fun _ _ z => (by cases z), hB.ok⟩
  · injection z with z
    exact n z
  · have rows : ∀ {as : List Addr} {r : List (List Nat)}, RowsAt H as r → RowsAt H' as r := by
      intro as
      induction as with
      | nil =>
        intro r h
        cases r with
        | nil => trivial
        | cons _ _ => exact h.elim
      | cons x xs ih =>
        intro r h
        cases r with
        | nil => exact h.elim
        | cons y ys => exact ⟨go _ _ h.1 fun _ _ z => (by cases z), ih h.2⟩
    exact rows hB.rows

/-! ### marks: tuples of a list, a key, what's settled -/
def MarkAt (H : Hp) (a : Addr) (x : Nat × Nat × Nat) : Prop := ∃ mk, H a = some (.tup [.ref mk, vn x.2.1, vn x.2.2]) ∧ H mk = some (.lst (vns (u8b x.1)))
def MarksAt (H : Hp) : List Addr → List (Nat × Nat × Nat) → Prop
  | [], [] => True
  | a :: as, x :: r => MarkAt H a x ∧ MarksAt H as r
  | _, _ => False
theorem MarkAt.ex {H H' : Hp} (e : Evl.Ex H H') {a : Addr} {x : Nat × Nat × Nat} (h : MarkAt H a x) : MarkAt H' a x := by
  obtain ⟨mk, h1, h2⟩ := h
  exact ⟨mk, e _ _ h1, e _ _ h2⟩
theorem MarksAt.ex {H H' : Hp} (e : Evl.Ex H H') : ∀ {as : List Addr} {r : List (Nat × Nat × Nat)}, MarksAt H as r → MarksAt H' as r
  | [], [], _ => trivial
  | _ :: _, _ :: _, ⟨h, t⟩ => ⟨h.ex e, t.ex e⟩
  | [], _ :: _, h => h.elim
  | _ :: _, [], h => h.elim
/-- the list that's being filled is none of the marks -/
theorem MarksAt.upd {H : Hp} {l : Addr} {xs : List V} {o : HO} (hl : H l = some (.lst xs)) : ∀ {as : List Addr} {r : List (Nat × Nat × Nat)}, MarksAt H as r → (∀ a ∈ as, ∀ mk k s, H a = some (.tup [.ref mk, k, s]) → mk ≠ l) → MarksAt (L2.upd H l o) as r
  | [], [], _, _ => trivial
  | a :: _, x :: _, ⟨⟨mk, h1, h2⟩, t⟩, n => ⟨⟨mk, (upd_ne (by
      rintro rfl
      rw [hl] at h1
      cases h1)).trans h1, (upd_ne (n a List.mem_cons_self mk _ _ h1)).trans h2⟩, t.upd hl fun b hb => n b (List.mem_cons_of_mem _ hb)⟩
  | [], _ :: _, h, _ => h.elim
  | _ :: _, [], h, _ => h.elim
theorem MarksAt.append {H : Hp} : ∀ {as bs : List Addr} {r s : List (Nat × Nat × Nat)}, MarksAt H as r → MarksAt H bs s → MarksAt H (as ++ bs) (r ++ s)
  | [], _, [], _, _, h => h
  | _ :: _, _, _ :: _, _, ⟨h1, t⟩, h => ⟨h1, t.append h⟩
  | [], _, _ :: _, _, h, _ => h.elim
  | _ :: _, _, [], _, h, _ => h.elim
theorem MarksAt.length {H : Hp} : ∀ {as : List Addr} {r : List (Nat × Nat × Nat)}, MarksAt H as r → as.length = r.length
  | [], [], _ => rfl
  | _ :: _, _ :: _, ⟨_, t⟩ => congrArg (· + 1) t.length
  | [], _ :: _, h => h.elim
  | _ :: _, [], h => h.elim
theorem MarksAt.at : ∀ {H : Hp} {as : List Addr} {r : List (Nat × Nat × Nat)} {i : Nat} {x : Nat × Nat × Nat}, MarksAt H as r → r[i]? = some x → ∃ a, as[i]? = some a ∧ MarkAt H a x
  | _, [], [], _, _, _, h => by simp at h
  | _, a :: _, _ :: _, 0, _, ⟨h, _⟩, e => by
    have := Option.some.inj e
    subst this
    exact ⟨a, rfl, h⟩
  | _, _ :: _, _ :: _, i + 1, _, ⟨_, t⟩, e => t.at (i := i) e
  | _, [], _ :: _, _, _, h, _ => h.elim
  | _, _ :: _, [], _, _, h, _ => h.elim
/-- all marks' lists stand apart from an address -/
def Off (H : Hp) (l : Addr) (as : List Addr) : Prop := ∀ a ∈ as, ∀ mk k s, H a = some (.tup [.ref mk, k, s]) → mk ≠ l
theorem u8b_small {c : Nat} (h : c < 128) : u8b c = [c] := by
  unfold u8b Cd.utf8
  rw [if_pos h, List.map_cons, List.map_nil, tb (by omega)]
section
variable {P : Program} {w : World} {K : PySem.W.Frag} {mg : Str → Option Value} {base : Heap} {CBoard CNumberedLine CStrokes CNews CPart CPlainLine CHall : Addr}
/-! ### __init__ -/
def spPartInit (CP CB : Addr) : Sp := fun vs H Q _ => ∃ (a bA dx : Addr) (k : Kb), vs = [.ref a, .ref bA] ∧ H a = some (.ins CP dx []) ∧ IsBoard CB H bA k ∧
  ∀ H', Fr [a] H H' → PartAt CP CB H' a bA k part0 dx → Q .non H'
theorem scPartInit : FnScope ["self", "board"] ["self", "board"] (defScope tPartInit) := ⟨rfl, rfl, rfl, by decide +kernel, rfl, by decide +kernel, by decide +kernel⟩
theorem ok_Part_init {f : Addr} {fd : FuncData} (D : Fun K "__init__" "Part.__init__" tPartInit f fd) (T : Tx K mg CBoard CNumberedLine CStrokes CNews CPart CPlainLine CHall) : FnOk P w K mg base CX0 1 f fd ["self", "board"] (spPartInit CPart CBoard) := by
  refine D.ok scPartInit (fun vs H Q E h => ?_) (fun cdv A outer s H vs Q E hr h => ⟨_,
    (pss_cons (ps_fld (pv 0) (pv 1) rfl)
      (pss_cons (ps_fld (pv 0) pe_n rfl)
      (pss_cons (ps_fld (pv 0) pe_n rfl)
      (pss_cons (ps_fld (pv 0) pe_bl rfl)
      (pss_cons (ps_fld (pv 0) (pe_gi T.g_OPEN) rfl)
      (pss_one (ps_fld (pv 0) pe_bl rfl))))))), ?_⟩)
  · obtain ⟨a, bA, dx, k, rfl, _⟩ := h
    rfl
  · obtain ⟨a, bA, dx, k, rfl, ho, hB, kQ⟩ := h
    refine q_fld (ev_var rfl) (ev_var rfl) ho T.c_Part T.n_Part_board (by show 0 < 1000; decide) fun H1 e1 => ?_
    refine q_fld ev_n (ev_var rfl) upd_same T.c_Part T.n_Part_chord (by show 1 < 1000; decide) fun H2 e2 => ?_
    refine q_fld ev_n (ev_var rfl) upd_same T.c_Part T.n_Part_lowest (by show 2 < 1000; decide) fun H3 e3 => ?_
    refine q_fld ev_c (ev_var rfl) upd_same T.c_Part T.n_Part_right_open (by show 3 < 1000; decide) fun H4 e4 => ?_
    refine q_fld ev_c (ev_var rfl) upd_same T.c_Part T.n_Part_settled (by show 4 < 1000; decide) fun H5 e5 => ?_
    refine s_fld ev_c (ev_var rfl) upd_same T.c_Part T.n_Part_complete (by show 5 < 1000; decide) fun H6 e6 => ?_
    have fa : ∀ (H : Hp) (o : HO), Fr [a] H (upd H a o) := fun H o => Fr.upd (by simp)
    have fr : ∀ o, Fr [a] H (upd H6 a o) := fun o => ((((((((((Fr.of (S := [a]) e1).trans (fa _ _)).trans (Fr.of e2)).trans (fa _ _)).trans (Fr.of e3)).trans (fa _ _)).trans (Fr.of e4)).trans (fa _ _)).trans (Fr.of e5)).trans (fa _ _)).trans ((Fr.of e6).trans (fa _ _))
    exact kQ _ (fr _) ⟨upd_same, hB.frI (fr _) ho T.d_Board_Part⟩

/-! ### may_dash, dash -/
theorem digits_right {k : Kb} (f : Nat → Bool) : ((bDigits k).drop (k.left + k.middle)).any f = (List.range' (k.left + k.middle) (k.size - (k.left + k.middle))).any fun i => f (kDig k i) := by
  have e : (bDigits k).drop (k.left + k.middle) = (List.range' (k.left + k.middle) (k.size - (k.left + k.middle))).map (kDig k) := by
    refine List.ext_getElem? fun i => ?_
    rw [List.getElem?_drop, List.getElem?_map]
    by_cases h : k.left + k.middle + i < k.size
    · rw [bDig_at h, List.getElem?_range' (by omega), Nat.one_mul]
      rfl
    · have l : (bDigits k).length = k.size := List.length_map _
      rw [List.getElem?_eq_none_iff.mpr (by omega), List.getElem?_eq_none_iff.mpr (by rw [List.length_range']; omega)]
      rfl
  rw [e, List.any_map]
  rfl
def spMayDash (CP CB : Addr) : Sp := spV fun vs H v => ∃ (a bA dx : Addr) (k : Kb) (p : PartM), vs = [.ref a] ∧ PartAt CP CB H a bA k p dx ∧ v = .bl (mayDashM k p)
theorem scPartMayDash : FnScope ["self", "digits", "digit"] ["self"] (defScope tPartMayDash) := ⟨rfl, rfl, rfl, by decide +kernel, rfl, by decide +kernel, by decide +kernel⟩
theorem ok_Part_may_dash {f : Addr} {fd : FuncData} (D : RawM K CPart "may_dash" "Part.may_dash" tPartMayDash f fd) (T : Tx K mg CBoard CNumberedLine CStrokes CNews CPart CPlainLine CHall) : OkM P w K mg base 1 CPart "may_dash" ["self"] (spMayDash CPart CBoard) f fd := by
  refine ⟨D.fn.ok scPartMayDash (fun vs H Q E h => ?_) (fun cdv A outer s H vs Q E hr h => ⟨_,
    (pss_cons (ps_if (pt_val (pe_fld (pv 0) rfl)) (pss_one (ps_ret pe_bl)) pss_nil)
      (pss_cons (ps_set (i := 1) scPartMayDash.nd rfl (Or.inl rfl) (pe_slice sl_list (pe_fld (pe_fld (pv 0) rfl) rfl) (po_some (pe_fld (pe_fld (pv 0) rfl) rfl)) po_none))
      (pss_one (ps_ret (pe_callB (cr_any rfl) (by rfl) T.b_any (by decide +kernel) (pa_cons (pe_lc (own := [("digit", 2)]) (g := gName 2) (by rfl) scPartMayDash.nd (pi_list (pv 1)) (blkOk_by (own := [("digit", 2)]) (N := ["self", "digits", "digit"]) (sc := defScope tPartMayDash) (by decide +kernel)) (fun _ _ _ _ _ => (pg_name (i := 2) scPartMayDash.nd rfl (Or.inl rfl))) (fun _ _ _ _ _ => pts_nil) (fun _ _ _ _ _ => (pe_or (pe_cmpR on_eq (pv 2) pe_n (nomark _)) (pe_one (pe_cmpR on_ne (pe_fldK (K := K) rfl (pv 0) rfl) (pe_gi T.g_BAR_ALONE) (nomark _)))))) pa_nil)))))), ?_⟩), D.at_, D.fn.binds fun _ _ _ _ _ _ us hl => match us, hl with | [_], _ => rfl⟩
  · obtain ⟨v, ⟨a, bA, dx, k, p, rfl, _⟩, _⟩ := h
    rfl
  · obtain ⟨v, ⟨a, bA, dx, k, p, rfl, hP, rfl⟩, kQ⟩ := h
    obtain ⟨bd, lA, dA, as, hB⟩ := hP.bd
    have ko := kb_ok hB.ok
    refine q_when (et_B (b := p.ro) (ev_fld (ev_var rfl) hP.ob T.c_Part T.n_Part_right_open rfl)) (fun h1 H1 e1 => s_ret ev_c fun H2 e2 => ?_) (fun h1 H1 e1 => ?_)
    · have : mayDashM k p = false := by
        unfold mayDashM
        rw [h1]
        rfl
      rw [this] at kQ
      exact kQ H2 (e1.trans e2)
    · refine q_asgL (el_from (l := bDigits k) (i := k.left + k.middle) (ev_fld (ev_fld (ev_var rfl) (e1 _ _ hP.ob) T.c_Part T.n_Part_board (v := .ref bA) rfl) (e1 _ _ hB.ob) T.c_Board T.n_Board_digits (v := .ref dA) rfl) (ev_fld (ev_fld (ev_var rfl) (e1 _ _ hP.ob) T.c_Part T.n_Part_board (v := .ref bA) rfl) (e1 _ _ hB.ob) T.c_Board T.n_Board_right_start rfl) (sq_of (e1 _ _ hB.ds))) fun d H2 hd e2 h2 => ?_
      have bl : (bDigits k).length = k.size := List.length_map _
      refine s_ret (ev_any (el_bools (fun i => decide (i = 0) || !decide (p.settled = 2)) (ev_var rfl) (sq_of h2) (by rw [List.length_drop]; omega) (fun _ => rfl) fun n _ H3 e3 => ev_orV (evN (n := n) (m := 0) (ev_var rfl) ev_n trivial) fun _ => evN (n := p.settled) (m := 2) (ev_fld (ev_var rfl) (((e1.trans e2).trans e3) _ _ hP.ob) T.c_Part T.n_Part_settled rfl) ev_c trivial)) fun H3 e3 => ?_
      rw [any_bl, digits_right]
      have : mayDashM k p = (List.range' (k.left + k.middle) (k.size - (k.left + k.middle))).any fun i => decide (kDig k i = 0) || !decide (p.settled = 2) := by
        unfold mayDashM
        rw [h1]
        rfl
      rw [this] at kQ
      exact kQ H3 ((e1.trans e2).trans e3)
/-- what a method that changes a part does -/
def PartDoes (CP CB : Addr) (H : Hp) (a bA : Addr) (k : Kb) (p' : PartM) (dx : Addr) (Q : VK) : Prop := ∀ H', Fr [a] H H' → PartAt CP CB H' a bA k p' dx → Q .non H'
def spDash (CP CB : Addr) : Sp := fun vs H Q _ => ∃ (a bA dx : Addr) (k : Kb) (p : PartM), vs = [.ref a] ∧ PartAt CP CB H a bA k p dx ∧ PartDoes CP CB H a bA k (dashM k p) dx Q
theorem scPartDash : FnScope ["self"] ["self"] (defScope tPartDash) := ⟨rfl, rfl, rfl, by decide +kernel, rfl, by decide +kernel, by decide +kernel⟩
theorem ok_Part_dash {f : Addr} {fd : FuncData} (D : RawM K CPart "dash" "Part.dash" tPartDash f fd) (T : Tx K mg CBoard CNumberedLine CStrokes CNews CPart CPlainLine CHall) : OkM P w K mg base 1 CPart "dash" ["self"] (spDash CPart CBoard) f fd := by
  refine ⟨D.fn.ok scPartDash (fun vs H Q E h => ?_) (fun cdv A outer s H vs Q E hr h => ⟨_,
    (pss_cons (ps_fld (pv 0) (pe_fld (pe_fld (pv 0) rfl) rfl) rfl)
      (pss_cons (ps_fld (pv 0) pe_bl rfl)
      (pss_one (ps_fld (pv 0) pe_bl rfl)))), ?_⟩), D.at_, D.fn.binds fun _ _ _ _ _ _ us hl => match us, hl with | [_], _ => rfl⟩
  · obtain ⟨a, bA, dx, k, p, rfl, _⟩ := h
    rfl
  · obtain ⟨a, bA, dx, k, p, rfl, hP, kQ⟩ := h
    obtain ⟨bd, lA, dA, as, hB⟩ := id hP.bd
    have fa : ∀ (H : Hp) (o : HO), Fr [a] H (upd H a o) := fun H o => Fr.upd (by simp)
    refine q_fld (ev_fld (ev_fld (ev_var rfl) hP.ob T.c_Part T.n_Part_board (v := .ref bA) rfl) hB.ob T.c_Board T.n_Board_right_start (v := vn (k.left + k.middle)) rfl) (ev_var rfl) hP.ob T.c_Part T.n_Part_lowest (by show 6 < 1000; decide) fun H1 e1 => ?_
    refine q_fld ev_c (ev_var rfl) upd_same T.c_Part T.n_Part_right_open (by show 6 < 1000; decide) fun H2 e2 => ?_
    refine s_fld ev_c (ev_var rfl) upd_same T.c_Part T.n_Part_complete (by show 6 < 1000; decide) fun H3 e3 => ?_
    have fr : ∀ o, Fr [a] H (upd H3 a o) := fun o => ((((Fr.of (S := [a]) e1).trans (fa _ _)).trans (Fr.of e2)).trans (fa _ _)).trans ((Fr.of e3).trans (fa _ _))
    exact kQ _ (fr _) ⟨upd_same, hP.bd.frI (fr _) hP.ob T.d_Board_Part⟩

/-! ### press -/
def spPartPress (CP CB : Addr) : Sp := fun vs H Q _ => ∃ (a bA dx : Addr) (k : Kb) (p : PartM) (i s : Nat), vs = [.ref a, vn i, vn s] ∧ PartAt CP CB H a bA k p dx ∧ i ≤ 1000 ∧ PartDoes CP CB H a bA k (pressM k p i s) dx Q
theorem scPartPress : FnScope ["self", "key", "settled"] ["self", "key", "settled"] (defScope tPartPress) := ⟨rfl, rfl, rfl, by decide +kernel, rfl, by decide +kernel, by decide +kernel⟩
theorem ok_Part_press {f : Addr} {fd : FuncData} (D : RawM K CPart "press" "Part.press" tPartPress f fd) (T : Tx K mg CBoard CNumberedLine CStrokes CNews CPart CPlainLine CHall) : OkM P w K mg base 1 CPart "press" ["self", "key", "settled"] (spPartPress CPart CBoard) f fd := by
  refine ⟨D.fn.ok scPartPress (fun vs H Q E h => ?_) (fun cdv A outer s H vs Q E hr h => ⟨_,
    (pss_cons (ps_fld (pv 0) (pe_op on_or (pe_fld (pv 0) rfl) (pe_op on_shl pe_n (pv 1))) rfl)
      (pss_cons (ps_if (pt_cmpR on_eq (pv 2) (pe_gi T.g_NUMBERS_outlines) (nomark _)) (pss_one (ps_fld (pv 0) (pe_op on_or (pe_fld (pv 0) rfl) pe_n) rfl)) pss_nil)
      (pss_cons (ps_fld (pv 0) (pe_op on_add (pv 1) pe_n) rfl)
      (pss_cons (ps_fld (pv 0) (pe_cmpR on_ge (pv 1) (pe_fld (pe_fld (pv 0) rfl) rfl) (nomark _)) rfl)
      (pss_cons (ps_fld (pv 0) (pv 2) rfl)
      (pss_one (ps_fld (pv 0) pe_bl rfl))))))), ?_⟩), D.at_, D.fn.binds fun _ _ _ _ _ _ us hl => match us, hl with | [_, _, _], _ => rfl⟩
  · obtain ⟨a, bA, dx, k, p, i, s, rfl, _⟩ := h
    rfl
  · obtain ⟨a, bA, dx, k, p, i, s, rfl, hP, hi, kQ⟩ := h
    have fa : ∀ (H : Hp) (o : HO), Fr [a] H (upd H a o) := fun H o => Fr.upd (by simp)
    have ne : ∀ {H : Hp} {bd lA dA : Addr} {as : List Addr} {fs : List (Str × V)}, H a = some (.ins CPart dx fs) → BoardAt CBoard H bA k bd lA dA as → bA ≠ a := fun h1 h2 => ne_cls h2.ob h1 T.d_Board_Part
    refine q_fld (evN (n := p.chord) (m := 2 ^ i) (ev_fld (ev_var rfl) hP.ob T.c_Part T.n_Part_chord rfl) (ev_bit (ev_var rfl) hi) trivial) (ev_var rfl) hP.ob T.c_Part T.n_Part_chord (by show 6 < 1000; decide) fun H1 e1 => ?_
    have f1 : Fr [a] H (upd H1 a (.ins CPart dx (putF "chord" (vn (p.chord ||| 2 ^ i)) (pF bA p)))) := (Fr.of e1).trans (fa _ _)
    have o1 : upd H1 a (.ins CPart dx (putF "chord" (vn (p.chord ||| 2 ^ i)) (pF bA p))) a = some (.ins CPart dx (pF bA { p with chord := p.chord ||| 2 ^ i })) := upd_same
    generalize upd H1 a (.ins CPart dx (putF "chord" (vn (p.chord ||| 2 ^ i)) (pF bA p))) = K1 at f1 o1
    -- what's behind the if
    have go : ∀ (D' : Ends) (c : Nat) (H5 : Hp), Fr [a] H H5 → H5 a = some (.ins CPart dx (pF bA { p with chord := c })) → (∀ H9, Fr [a] H H9 → PartAt CPart CBoard H9 a bA k ⟨c, i + 1, decide (k.left ≤ i), s, true⟩ dx → D'.nx [some (.ref a), some (vn i), some (vn s)] H9) →
        tSeq (sFld K (tVar 0) (tOp rAddN (tVar 1) (tC (vn 1))) "lowest") (tSeq (sFld K (tVar 0) (tOp rGeN (tVar 1) (tFld K (tFld K (tVar 0) "board") "middle_start")) "right_open") (tSeq (sFld K (tVar 0) (tVar 2) "settled") (sFld K (tVar 0) (tC (.bl true)) "complete"))) D' [some (.ref a), some (vn i), some (vn s)] H5 := by
      intro D' c H5 f5 o5 fin
      refine q_fld (evN (n := i) (m := 1) (ev_var rfl) ev_n trivial) (ev_var rfl) o5 T.c_Part T.n_Part_lowest (by show 6 < 1000; decide) fun H6 e6 => ?_
      have f6 : Fr [a] H (upd H6 a (.ins CPart dx (putF "lowest" (vn (i + 1)) (pF bA { p with chord := c })))) := (f5.trans (Fr.of e6)).trans (fa _ _)
      have o6 : upd H6 a (.ins CPart dx (putF "lowest" (vn (i + 1)) (pF bA { p with chord := c }))) a = some (.ins CPart dx (pF bA { p with chord := c, lowest := i + 1 })) := upd_same
      generalize upd H6 a (.ins CPart dx (putF "lowest" (vn (i + 1)) (pF bA { p with chord := c }))) = K6 at f6 o6
      obtain ⟨bd, lA, dA, as, hB⟩ := hP.bd.frI f6 hP.ob T.d_Board_Part
      refine q_fld (evN (n := i) (m := k.left) (ev_var rfl) (ev_fld (ev_fld (ev_var rfl) o6 T.c_Part T.n_Part_board (v := .ref bA) rfl) hB.ob T.c_Board T.n_Board_middle_start rfl) trivial) (ev_var rfl) o6 T.c_Part T.n_Part_right_open (by show 6 < 1000; decide) fun H7 e7 => ?_
      refine q_fld (ev_var rfl) (ev_var rfl) upd_same T.c_Part T.n_Part_settled (by show 6 < 1000; decide) fun H8 e8 => ?_
      refine s_fld ev_c (ev_var rfl) upd_same T.c_Part T.n_Part_complete (by show 6 < 1000; decide) fun H9 e9 => ?_
      have fr : ∀ o, Fr [a] H (upd H9 a o) := fun o => (((((f6.trans (Fr.of e7)).trans (fa _ _)).trans (Fr.of e8)).trans (fa _ _)).trans ((Fr.of e9).trans (fa _ _)))
      exact fin _ (fr _) ⟨upd_same, hP.bd.frI (fr _) hP.ob T.d_Board_Part⟩
    refine q_when (etN (g := fun n m => decide (n = m)) (n := s) (m := 3) (ev_var rfl) ev_c trivial) (fun hb H2 e2 => ?_) (fun hb H2 e2 => ?_)
    · have s3 := of_decide_eq_true hb
      refine s_fld (evN (n := p.chord ||| 2 ^ i) (m := 1) (ev_fld (ev_var rfl) (e2 _ _ o1) T.c_Part T.n_Part_chord rfl) ev_n trivial) (ev_var rfl) (e2 _ _ o1) T.c_Part T.n_Part_chord (by show 6 < 1000; decide) fun H3 e3 => ?_
      refine go _ (p.chord ||| 2 ^ i ||| 1) _ (((f1.trans (Fr.of e2)).trans (Fr.of e3)).trans (fa _ _)) upd_same fun H9 g1 g2 => kQ H9 g1 ?_
      have : pressM k p i s = ⟨p.chord ||| 2 ^ i ||| 1, i + 1, decide (k.left ≤ i), s, true⟩ := by
        unfold pressM
        rw [if_pos s3]
      rw [this]
      exact g2
    · have s3 := of_decide_eq_false hb
      refine go _ (p.chord ||| 2 ^ i) H2 (f1.trans (Fr.of e2)) (e2 _ _ o1) fun H9 g1 g2 => kQ H9 g1 ?_
      have : pressM k p i s = ⟨p.chord ||| 2 ^ i, i + 1, decide (k.left ≤ i), s, true⟩ := by
        unfold pressM
        rw [if_neg s3]
      rw [this]
      exact g2
end
end Kx

-- KPart2
namespace Kx
open PySem PySem.Spec PyProof.Rows L2 Evl
section
variable {P : Program} {w : World} {K : PySem.W.Frag} {mg : Str → Option Value} {base : Heap} {CBoard CNumberedLine CStrokes CNews CPart CPlainLine CHall : Addr}
/-- a list of marks that's new: it and its marks stand apart -/
def spMks (ask : List V → Hp → List (Nat × Nat × Nat) → Prop) : Sp := fun vs H Q _ => ∃ L, ask vs H L ∧ ∀ (H' : Hp) (l : Addr) (as : List Addr), Evl.Ex H H' → H l = none → H' l = some (.lst (refs as)) → MarksAt H' as L → Off H' l as → Q (.ref l) H'
theorem Off.ex {H H' : Hp} (e : Evl.Ex H H') {l : Addr} {as : List Addr} {L : List (Nat × Nat × Nat)} (m : MarksAt H as L) (h : Off H l as) : Off H' l as := by
  intro a ha mk k s q
  have : ∀ {as : List Addr} {L : List (Nat × Nat × Nat)}, MarksAt H as L → a ∈ as → ∃ x, MarkAt H a x := by
    intro as
    induction as with
    | nil => intro L _ h; cases h
    | cons b bs ih =>
      intro L m h
      cases L with
      | nil => exact m.elim
      | cons y ys =>
        rcases List.mem_cons.mp h with z | z
        · subst z
          exact ⟨y, m.1⟩
        · exact ih m.2 z
  obtain ⟨x, mk', h1, h2⟩ := this m ha
  have q' := e _ _ h1
  rw [q] at q'
  injection q' with q'
  injection q' with q'
  have e1 := (List.cons.inj q').1
  injection e1 with e1
  rw [e1]
  exact h a ha mk' _ _ h1
/-- the list changes: the marks, that stand apart from it, stay so -/
theorem Off.upd {H : Hp} {l : Addr} {xs : List V} {o : HO} {as : List Addr} {L : List (Nat × Nat × Nat)} (hl : H l = some (.lst xs)) (m : MarksAt H as L) (h : Off H l as) : Off (upd H l o) l as := by
  intro a ha mk k s q
  by_cases z : a = l
  · exfalso
    subst z
    have : ∀ {as : List Addr} {L : List (Nat × Nat × Nat)}, MarksAt H as L → a ∈ as → ∃ x, MarkAt H a x := by
      intro as
      induction as with
      | nil => intro L _ h; cases h
      | cons b bs ih =>
        intro L m h
        cases L with
        | nil => exact m.elim
        | cons y ys =>
          rcases List.mem_cons.mp h with z | z
          · subst z
            exact ⟨y, m.1⟩
          · exact ih m.2 z
    obtain ⟨x, mk', h1, _⟩ := this m ha
    rw [hl] at h1
    cases h1
  · rw [upd_ne z] at q
    exact h a ha mk k s q
theorem Off.append {H : Hp} {l : Addr} {as bs : List Addr} (h1 : Off H l as) (h2 : Off H l bs) : Off H l (as ++ bs) := fun a ha => (List.mem_append.mp ha).elim (h1 a) (h2 a)
/-- one mark more, told by a tuple -/
theorem mark_one {H : Hp} {p mk l : Addr} {c i s : Nat} (hp : H p = some (.tup [.ref mk, vn i, vn s])) (hm : H mk = some (.lst (vns (u8b c)))) (n : mk ≠ l) : MarksAt H [p] [(c, i, s)] ∧ Off H l [p] :=
  ⟨⟨⟨mk, hp, hm⟩, trivial⟩, fun a ha mk' k' s' q => by
    rw [List.mem_singleton] at ha
    subst ha
    rw [hp] at q
    injection q with q
    injection q with q
    have e1 := (List.cons.inj q).1
    injection e1 with e1
    rw [← e1]
    exact n⟩
/-- found.append((..)) where found stands at l -/
theorem mark_add {H H1 : Hp} {l p mk : Addr} {as : List Addr} {L : List (Nat × Nat × Nat)} {c i s : Nat} (hl : H l = some (.lst (refs as))) (m : MarksAt H as L) (o : Off H l as) (e : Evl.Ex H H1) (hp : H1 p = some (.tup [.ref mk, vn i, vn s])) (hm : H1 mk = some (.lst (vns (u8b c)))) (n : mk ≠ l) :
    upd H1 l (.lst (refs as ++ [.ref p])) l = some (.lst (refs (as ++ [p]))) ∧ MarksAt (upd H1 l (.lst (refs as ++ [.ref p]))) (as ++ [p]) (L ++ [(c, i, s)]) ∧ Off (upd H1 l (.lst (refs as ++ [.ref p]))) l (as ++ [p]) := by
  obtain ⟨m1, o1⟩ := mark_one hp hm n
  have m2 := (m.ex e).append m1
  have o2 := (o.ex e m).append o1
  refine ⟨?_, m2.upd (e _ _ hl) o2, o2.upd (e _ _ hl) m2⟩
  rw [refs_append]
  exact upd_same

/-- xs.append((new list, ..)) -/
theorem s_appUL {σ : L2.St} {H : Hp} {D : Ends} {ta te : TE} {tr : TA} {l : Addr} {xs ys vs : List V} (hl : H l = some (.lst xs)) (ha : Ev ta σ H (.ref l)) (h : EvL te σ H ys) (hr : ∀ H1, Evl.Ex H H1 → EvA tr σ H1 vs) (hz : xs.length < 100000) (hv : vs.length ≤ 1000)
    (k : ∀ mk p H1, H mk = none → H p = none → Evl.Ex H H1 → H1 mk = some (.lst ys) → H1 p = some (.tup (.ref mk :: vs)) → D.nx σ (upd H1 l (.lst (xs ++ [.ref p])))) :
    tDrop (tBM K "list" rAppend ta (tCons (tTup (tCons te tr)) tNil)) D σ H := ha H (Evl.Ex.refl H) _ fun H1 e1 =>
  ⟨Or.inl ⟨rfl, xs, sq_of (e1 l _ hl)⟩, h H1 e1 _ fun mk H2 hmk e2 h2 => hr H2 (e1.trans e2) H2 (Evl.Ex.refl _) _ fun H3 e3 => ⟨sz_of (by rw [List.length_cons]; omega), fun p hp =>
    ⟨l, xs, .ref p, rfl, rfl, (upd_ne (ne_of_none (((e1.trans e2).trans e3) _ _ hl) hp)).trans (((e1.trans e2).trans e3) _ _ hl), sz_lt hz,
      k mk p _ (fresh_back e1 hmk) (fresh_back ((e1.trans e2).trans e3) hp) (((e1.trans e2).trans e3).trans (Evl.Ex.new hp)) ((upd_ne (ne_of_none (e3 _ _ h2) hp)).trans (e3 _ _ h2)) upd_same⟩⟩⟩

/-! ### digit_key_marks -/
def dkM (k : Kb) (p : PartM) (i : Nat) : List (Nat × Nat × Nat) := (if p.settled = 0 ∨ p.settled = 1 then [(k.labelOf i, i, 1)] else []) ++ (if p.settled = 0 ∨ p.settled = 3 then [(kDig k i, i, 3)] else [])
def spDkm (CP CB : Addr) : Sp := spMks fun vs H L => ∃ (a bA dx : Addr) (k : Kb) (p : PartM) (i : Nat), vs = [.ref a, vn i] ∧ PartAt CP CB H a bA k p dx ∧ i < k.size ∧ L = dkM k p i
theorem scPartDigitKeyMarks : FnScope ["self", "key", "found"] ["self", "key"] (defScope tPartDigitKeyMarks) := ⟨rfl, rfl, rfl, by decide +kernel, rfl, by decide +kernel, by decide +kernel⟩
theorem kDig_small {k : Kb} (h : k.ok = true) (i : Nat) : kDig k i < 128 := by
  unfold kDig
  cases hd : k.digitOf i with
  | none => show 0 < 128; decide
  | some d => exact Nat.lt_of_le_of_lt (digit_range h hd).2.2.1 (by decide)
theorem ok_Part_digit_key_marks {f : Addr} {fd : FuncData} (D : RawM K CPart "digit_key_marks" "Part.digit_key_marks" tPartDigitKeyMarks f fd) (T : Tx K mg CBoard CNumberedLine CStrokes CNews CPart CPlainLine CHall) : OkM P w K mg base 1 CPart "digit_key_marks" ["self", "key"] (spDkm CPart CBoard) f fd := by
  refine ⟨D.fn.ok scPartDigitKeyMarks (fun vs H Q E h => ?_) (fun cdv A outer s H vs Q E hr h => ⟨_,
    (pss_cons (ps_set (i := 2) scPartDigitKeyMarks.nd rfl (Or.inl rfl) (pe_lst pa_nil))
      (pss_cons (ps_if (pt_cmpR op_in_seq (pe_fld (pv 0) rfl) (pe_tup (pa_cons (pe_gi T.g_OPEN) (pa_cons (pe_gi T.g_WITHOUT_BAR) pa_nil))) (by rfl)) (pss_one (ps_expr (pe_bm PySem.F.plainAttrs_list PySem.F.slot_list_append PySem.F.type_list_append mt_append (pv 2) (pa_cons (pe_tup (pa_cons (pe_ix ix_list (pe_fld (pe_fld (pv 0) rfl) rfl) (pv 1) (fun _ _ => rfl)) (pa_cons (pv 1) (pa_cons (pe_gi T.g_WITHOUT_BAR) pa_nil)))) pa_nil)))) pss_nil)
      (pss_cons (ps_if (pt_cmpR op_in_seq (pe_fld (pv 0) rfl) (pe_tup (pa_cons (pe_gi T.g_OPEN) (pa_cons (pe_gi T.g_NUMBERS_outlines) pa_nil))) (by rfl)) (pss_one (ps_expr (pe_bm PySem.F.plainAttrs_list PySem.F.slot_list_append PySem.F.type_list_append mt_append (pv 2) (pa_cons (pe_tup (pa_cons (pe_lst (pa_cons (pe_ix ix_list (pe_fld (pe_fld (pv 0) rfl) rfl) (pv 1) (fun _ _ => rfl)) pa_nil)) (pa_cons (pv 1) (pa_cons (pe_gi T.g_NUMBERS_outlines) pa_nil)))) pa_nil)))) pss_nil)
      (pss_one (ps_ret (pv 2)))))), ?_⟩), D.at_, D.fn.binds fun _ _ _ _ _ _ us hl => match us, hl with | [_, _], _ => rfl⟩
  · obtain ⟨L, ⟨a, bA, dx, k, p, i, rfl, _⟩, _⟩ := h
    rfl
  · obtain ⟨L, ⟨a, bA, dx, k, p, i, rfl, hP, hi, rfl⟩, kQ⟩ := h
    obtain ⟨bd, lA, dA, as, hB⟩ := id hP.bd
    have hk := hB.ok
    obtain ⟨la, hla, hlr⟩ := hB.rows.at (bLab_at hk hi)
    refine q_asgL (el_lst ea_nil few) fun l H1 hl e1 h1 => ?_
    have lal : la ≠ l := by
      rintro rfl
      rw [hlr] at hl
      cases hl
    -- the second if, from what's found so far
    have go2 : ∀ (D' : Ends) (H5 : Hp) (bs : List Addr) (L1 : List (Nat × Nat × Nat)), Evl.Ex H H5 → H5 l = some (.lst (refs bs)) → MarksAt H5 bs L1 → Off H5 l bs → L1.length ≤ 5 → (∀ H9 cs, Evl.Ex H H9 → H9 l = some (.lst (refs cs)) → MarksAt H9 cs (L1 ++ (if p.settled = 0 ∨ p.settled = 3 then [(kDig k i, i, 3)] else [])) → Off H9 l cs → D'.rt (.ref l) H9) →
        tSeq (tIfS (tTest (tOp (rIn K false) (tFld K (tVar 0) "settled") (tTup (tCons (tC (vn 0)) (tCons (tC (vn 3)) tNil))))) (tDrop (tBM K "list" rAppend (tVar 2) (tCons (tTup (tCons (tLst (tCons (tOp (rIxL K) (tFld K (tFld K (tVar 0) "board") "digits") (tVar 1)) tNil)) (tCons (tVar 1) (tCons (tC (vn 3)) tNil)))) tNil))) tNext) (tRet (tVar 2)) D' [some (.ref a), some (vn i), some (.ref l)] H5 := by
      intro D' H5 bs L1 e5 h5 m5 o5 len5 fin
      have bl := m5.length
      refine q_when (et_is (et_test (ev_inU (x := vn p.settled) (ev_fld (ev_var rfl) (e5 _ _ hP.ob) T.c_Part T.n_Part_settled rfl) (eu_tup (ea_cons ev_c (ea_cons ev_c ea_nil)) few) rfl rfl)) (inV_vns p.settled [0, 3])) (fun hb H6 e6 => ?_) (fun hb H6 e6 => ?_)
      · have c : p.settled = 0 ∨ p.settled = 3 := by
          have := of_decide_eq_true hb
          simpa using this
        rw [if_pos c] at fin
        have e56 := e5.trans e6
        refine s_appUL (e6 _ _ h5) (ev_var rfl) (el_lst (ea_cons (ev_ixN (i := i) (n := kDig k i) (ev_fld (ev_fld (ev_var rfl) (e56 _ _ hP.ob) T.c_Part T.n_Part_board (v := .ref bA) rfl) (e56 _ _ hB.ob) T.c_Board T.n_Board_digits rfl) (ev_var rfl) (sq_of (e56 _ _ hB.ds)) (bDig_at hi)) ea_nil) few) (fun _ _ => ea_cons (ev_var rfl) (ea_cons ev_c ea_nil)) (by rw [refs_length]; omega) (by show 2 ≤ 1000; decide) fun mk q H8 hmk hq e8 h8 h8q => ?_
        have mkl : mk ≠ l := by
          rintro rfl
          have := e6 _ _ h5
          rw [this] at hmk
          cases hmk
        obtain ⟨g1, g2, g3⟩ := mark_add (c := kDig k i) (i := i) (s := 3) (p := q) (mk := mk) h5 m5 o5 (e6.trans e8) h8q (by rw [u8b_small (kDig_small hk i)]; exact h8) mkl
        have eX : Evl.Ex H5 H8 := e6.trans e8
        refine s_ret (ev_var rfl) fun H9 e9 => ?_
        exact fin H9 (bs ++ [q]) (((e5.trans eX).mut hl).trans e9) (e9 _ _ g1) (g2.ex e9) (g3.ex e9 g2)
      · have c : ¬ (p.settled = 0 ∨ p.settled = 3) := by
          intro z
          have : decide (p.settled ∈ [0, 3]) = true := by
            rw [decide_eq_true_eq]
            simpa using z
          rw [this] at hb
          cases hb
        rw [if_neg c, List.append_nil] at fin
        refine s_ret (ev_var rfl) fun H9 e9 => ?_
        exact fin H9 bs ((e5.trans e6).trans e9) ((e6.trans e9) _ _ h5) (m5.ex (e6.trans e9)) (o5.ex (e6.trans e9) m5)
    refine q_when (et_is (et_test (ev_inU (x := vn p.settled) (ev_fld (ev_var rfl) (e1 _ _ hP.ob) T.c_Part T.n_Part_settled rfl) (eu_tup (ea_cons ev_c (ea_cons ev_c ea_nil)) few) rfl rfl)) (inV_vns p.settled [0, 1])) (fun hb H2 e2 => ?_) (fun hb H2 e2 => ?_)
    · have c : p.settled = 0 ∨ p.settled = 1 := by
        have := of_decide_eq_true hb
        simpa using this
      have e12 := e1.trans e2
      refine s_appU (e2 _ _ h1) (ev_var rfl) (eu_tup (ea_cons (x := .ref la) (ev_op (x := .ref lA) (y := vn i) (ev_fld (ev_fld (ev_var rfl) (e12 _ _ hP.ob) T.c_Part T.n_Part_board (v := .ref bA) rfl) (e12 _ _ hB.ob) T.c_Board T.n_Board_labels rfl) (ev_var rfl) (rv_ixL (sq_of (e12 _ _ hB.ls)) (atI_at (refs_at hla)))) (ea_cons (ev_var rfl) (ea_cons ev_c ea_nil))) few) (by show 0 < 100000; decide) fun q H3 hq e3 h3 => ?_
      obtain ⟨g1, g2, g3⟩ := mark_add (as := []) (L := []) (c := k.labelOf i) (i := i) (s := 1) (l := l) (p := q) (mk := la) (H := H1) h1 trivial (fun _ h => by cases h) (e2.trans e3) h3 (((e1.trans e2).trans e3) _ _ hlr) lal
      refine go2 _ _ [q] [(k.labelOf i, i, 1)] ((e12.trans e3).mut hl) g1 g2 g3 (by show 1 ≤ 5; decide) fun H9 cs r1 r2 r3 r4 => kQ H9 l cs r1 hl r2 ?_ r4
      unfold dkM
      rw [if_pos c]
      exact r3
    · have c : ¬ (p.settled = 0 ∨ p.settled = 1) := by
        intro z
        have : decide (p.settled ∈ [0, 1]) = true := by
          rw [decide_eq_true_eq]
          simpa using z
        rw [this] at hb
        cases hb
      refine go2 _ _ [] [] (e1.trans e2) (e2 _ _ h1) trivial (fun _ h => by cases h) (Nat.zero_le _) fun H9 cs r1 r2 r3 r4 => kQ H9 l cs r1 hl r2 ?_ r4
      unfold dkM
      rw [if_neg c]
      exact r3
end
end Kx

-- KPart3
namespace Kx
open PySem PySem.Spec PyProof.Rows L2 Evl
section
variable {P : Program} {w : World} {K : PySem.W.Frag} {mg : Str → Option Value} {base : Heap} {CBoard CNumberedLine CStrokes CNews CPart CPlainLine CHall : Addr}
/-- xs.extend(o.m(..)) -/
theorem s_extW {σ : L2.St} {H : Hp} {D : Ends} {ta te : TE} {l : Addr} {xs : List V} (hl : H l = some (.lst xs)) (ha : Ev ta σ H (.ref l)) (hh : ∀ H1, Evl.Ex H H1 → te σ H1 fun y H2 => rExtend (.ref l) [y] H2 fun _ H3 => D.nx σ H3) : tDrop (tBM K "list" rExtend ta (tCons te tNil)) D σ H :=
  ha H (Evl.Ex.refl H) _ fun H1 e1 => ⟨Or.inl ⟨rfl, xs, sq_of (e1 l _ hl)⟩, hh H1 e1⟩
/-! ### marks -/
theorem keyMarks_len (k : Kb) (p : PartM) (i : Nat) : (keyMarks k p i).length ≤ 2 := by
  unfold keyMarks
  split
  · exact Nat.le_of_ble_eq_true rfl
  · split
    · exact Nat.le_of_ble_eq_true rfl
    · rw [List.length_append]
      split <;> split <;> exact Nat.le_of_ble_eq_true rfl
theorem flat_len (k : Kb) (p : PartM) : ∀ l : List Nat, (l.flatMap (keyMarks k p)).length ≤ 2 * l.length
  | [] => Nat.le_refl _
  | a :: r => by
    rw [List.flatMap_cons, List.length_append, List.length_cons]
    have := keyMarks_len k p a
    have := flat_len k p r
    omega
theorem range_snoc (lo i : Nat) (f : Nat → List (Nat × Nat × Nat)) : (List.range' lo (i + 1)).flatMap f = (List.range' lo i).flatMap f ++ f (lo + i) := by
  rw [List.range'_concat, List.flatMap_append, Nat.one_mul]
  simp
def spMarks (CP CB : Addr) : Sp := spMks fun vs H L => ∃ (a bA dx : Addr) (k : Kb) (p : PartM), vs = [.ref a] ∧ PartAt CP CB H a bA k p dx ∧ p.lowest ≤ 1000 ∧ L = marksM k p
theorem scPartMarks : FnScope ["self", "end", "found", "key"] ["self"] (defScope tPartMarks) := ⟨rfl, rfl, rfl, by decide +kernel, rfl, by decide +kernel, by decide +kernel⟩
theorem ok_Part_marks {f f1 f2 : Addr} {fd fd1 fd2 : FuncData} (D : RawM K CPart "marks" "Part.marks" tPartMarks f fd) (T : Tx K mg CBoard CNumberedLine CStrokes CNews CPart CPlainLine CHall) (G_Board_is_bar : OkM P w K mg base 1 CBoard "is_bar" ["self", "key"] (spIsBar CBoard) f1 fd1)
    (G_Part_digit_key_marks : OkM P w K mg base 1 CPart "digit_key_marks" ["self", "key"] (spDkm CPart CBoard) f2 fd2) : OkM P w K mg base 2 CPart "marks" ["self"] (spMarks CPart CBoard) f fd := by
  refine ⟨D.fn.ok scPartMarks (fun vs H Q E h => ?_) (fun cdv A outer s H vs Q E hr h => ⟨_,
    (pss_cons (ps_set (i := 1) scPartMarks.nd rfl (Or.inl rfl) (pe_ifExp (pt_val (pe_fld (pv 0) rfl)) (pe_fld (pe_fld (pv 0) rfl) rfl) (pe_fld (pe_fld (pv 0) rfl) rfl)))
      (pss_cons (ps_set (i := 2) scPartMarks.nd rfl (Or.inl rfl) (pe_lst pa_nil))
      (pss_cons (ps_for PassesOwn.never rfl (pi_range2 (by rfl) T.b_range (pa_cons (pe_fld (pv 0) rfl) (pa_cons (pv 1) pa_nil))) (pg_name (i := 3) scPartMarks.nd rfl (Or.inl rfl)) (pss_one (ps_if (pt_val (pe_ownM G_Board_is_bar T.c_Board hr (pe_fld (pv 0) rfl) (pa_cons (pv 3) pa_nil))) (pss_one (ps_expr (pe_bm PySem.F.plainAttrs_list PySem.F.slot_list_append PySem.F.type_list_append mt_append (pv 2) (pa_cons (pe_tup (pa_cons (pe_ix ix_list (pe_fld (pe_fld (pv 0) rfl) rfl) (pv 3) (fun _ _ => rfl)) (pa_cons (pv 3) (pa_cons (pe_gi T.g_BAR_ALONE) pa_nil)))) pa_nil)))) (pss_one (ps_if (pt_cmpR on_eq (pe_ix ix_list (pe_fld (pe_fld (pv 0) rfl) rfl) (pv 3) (fun _ _ => rfl)) pe_n (nomark _)) (pss_one (ps_expr (pe_bm PySem.F.plainAttrs_list PySem.F.slot_list_append PySem.F.type_list_append mt_append (pv 2) (pa_cons (pe_tup (pa_cons (pe_ix ix_list (pe_fld (pe_fld (pv 0) rfl) rfl) (pv 3) (fun _ _ => rfl)) (pa_cons (pv 3) (pa_cons (pe_fld (pv 0) rfl) pa_nil)))) pa_nil)))) (pss_one (ps_expr (pe_bm PySem.F.plainAttrs_list PySem.F.slot_list_extend PySem.F.type_list_extend mt_extend (pv 2) (pa_cons (pe_ownM G_Part_digit_key_marks T.c_Part hr (pv 0) (pa_cons (pv 3) pa_nil)) pa_nil)))))))))
      (pss_one (ps_ret (pv 2)))))), ?_⟩), D.at_, D.fn.binds fun _ _ _ _ _ _ us hl => match us, hl with | [_], _ => rfl⟩
  · obtain ⟨L, ⟨a, bA, dx, k, p, rfl, _⟩, _⟩ := h
    rfl
  · obtain ⟨L, ⟨a, bA, dx, k, p, rfl, hP, hlow, rfl⟩, kQ⟩ := h
    obtain ⟨bd, lA, dA, as, hB⟩ := id hP.bd
    have hk := hB.ok
    have ko := kb_ok hk
    have el := end_le (p := p) ko.2.2.1
    refine q_asg (v := vn (endM k p)) (ev_if (b := p.ro) (et_B (ev_fld (ev_var rfl) hP.ob T.c_Part T.n_Part_right_open rfl)) (fun hb => ev_is (ev_fld (ev_fld (ev_var rfl) hP.ob T.c_Part T.n_Part_board (v := .ref bA) rfl) hB.ob T.c_Board T.n_Board_size (v := vn k.size) rfl) (by unfold endM; rw [if_pos hb])) fun hb => ev_is (ev_fld (ev_fld (ev_var rfl) hP.ob T.c_Part T.n_Part_board (v := .ref bA) rfl) hB.ob T.c_Board T.n_Board_right_start (v := vn (k.left + k.middle)) rfl) (by unfold endM; rw [hb]; rfl)) fun H1 e1 => ?_
    refine q_asgL (el_lst ea_nil few) fun l H2 hl e2 h2 => ?_
    have hl0 := fresh_back e1 hl
    have e12 := e1.trans e2
    refine q_forR2 (lo := (p.lowest : Int)) (n := (endM k p : Int)) (ea_cons (ev_fld (ev_var rfl) (e12 _ _ hP.ob) T.c_Part T.n_Part_lowest rfl) (ea_cons (ev_var rfl) ea_nil)) (by omega) (fun i σ H' => ∃ (v3 : Option V) (bs : List Addr), σ = [some (.ref a), some (vn (endM k p)), some (.ref l), v3] ∧ Evl.Ex H H' ∧ H' l = some (.lst (refs bs)) ∧ MarksAt H' bs ((List.range' p.lowest i).flatMap (keyMarks k p)) ∧ Off H' l bs)
      (fun H3 e3 => ⟨none, [], rfl, e12.trans e3, e3 _ _ h2, trivial, fun _ h => by cases h⟩) ?_ ?_
    · rintro i σ H' hi ⟨v3, bs, rfl, eH, hL, hM, hO⟩
      have ki : p.lowest + i < k.size := by omega
      have ic : (p.lowest : Int) + (i : Int) = ((p.lowest + i : Nat) : Int) := by omega
      rw [ic]
      have rs := range_snoc p.lowest i (keyMarks k p)
      have fl := flat_len k p (List.range' p.lowest i)
      rw [List.length_range'] at fl
      have bl := hM.length
      generalize hkey : p.lowest + i = key at ki rs
      obtain ⟨la, hla, hlr⟩ := hB.rows.at (bLab_at hk ki)
      have lal : la ≠ l := by
        rintro rfl
        have := e1 _ _ hlr
        rw [this] at hl
        cases hl
      refine s_if (et_B (ev_meth (ev_fld (ev_var rfl) (eH _ _ hP.ob) T.c_Part T.n_Part_board (v := .ref bA) rfl) (eH _ _ hB.ob) rfl (ea_cons (x := vn key) (ev_var rfl) ea_nil) (spV_is fun H'' e'' => ⟨bA, k, key, rfl, (hP.bd.ex eH).ex e'', rfl⟩))) (fun hb H3 e3 => ?_) (fun hb H3 e3 => ?_)
      · have km : keyMarks k p key = [(k.labelOf key, key, 2)] := if_pos hb
        have eX := eH.trans e3
        refine s_appU (e3 _ _ hL) (ev_var rfl) (eu_tup (ea_cons (x := .ref la) (ev_op (x := .ref lA) (y := vn key) (ev_fld (ev_fld (ev_var rfl) (eX _ _ hP.ob) T.c_Part T.n_Part_board (v := .ref bA) rfl) (eX _ _ hB.ob) T.c_Board T.n_Board_labels rfl) (ev_var rfl) (rv_ixL (sq_of (eX _ _ hB.ls)) (atI_at (refs_at hla)))) (ea_cons (ev_var rfl) (ea_cons ev_c ea_nil))) few) (by rw [refs_length]; omega) fun q H4 hq e4 h4 => ?_
        obtain ⟨g1, g2, g3⟩ := mark_add (c := k.labelOf key) (i := key) (s := 2) (p := q) (mk := la) hL hM hO (e3.trans e4) h4 ((eX.trans e4) _ _ hlr) lal
        refine ⟨_, bs ++ [q], rfl, (eX.trans e4).mut hl0, g1, ?_, g3⟩
        rw [rs, km]
        exact g2
      · have nb : ¬ (k.bar && decide (key = 0)) = true := by rw [hb]; decide
        have eX := eH.trans e3
        refine s_if (etN (g := fun n m => decide (n = m)) (n := kDig k key) (m := 0) (ev_ixN (i := key) (ev_fld (ev_fld (ev_var rfl) (eX _ _ hP.ob) T.c_Part T.n_Part_board (v := .ref bA) rfl) (eX _ _ hB.ob) T.c_Board T.n_Board_digits rfl) (ev_var rfl) (sq_of (eX _ _ hB.ds)) (bDig_at ki)) ev_n trivial) (fun hb2 H4 e4 => ?_) (fun hb2 H4 e4 => ?_)
        · have km : keyMarks k p key = [(k.labelOf key, key, p.settled)] := (if_neg nb).trans (if_pos (of_decide_eq_true hb2))
          have eY := eX.trans e4
          refine s_appU ((e3.trans e4) _ _ hL) (ev_var rfl) (eu_tup (ea_cons (x := .ref la) (ev_op (x := .ref lA) (y := vn key) (ev_fld (ev_fld (ev_var rfl) (eY _ _ hP.ob) T.c_Part T.n_Part_board (v := .ref bA) rfl) (eY _ _ hB.ob) T.c_Board T.n_Board_labels rfl) (ev_var rfl) (rv_ixL (sq_of (eY _ _ hB.ls)) (atI_at (refs_at hla)))) (ea_cons (ev_var rfl) (ea_cons (ev_fld (ev_var rfl) (eY _ _ hP.ob) T.c_Part T.n_Part_settled rfl) ea_nil))) few) (by rw [refs_length]; omega) fun q H5 hq e5 h5 => ?_
          obtain ⟨g1, g2, g3⟩ := mark_add (c := k.labelOf key) (i := key) (s := p.settled) (p := q) (mk := la) hL hM hO ((e3.trans e4).trans e5) h5 ((eY.trans e5) _ _ hlr) lal
          refine ⟨_, bs ++ [q], rfl, (eY.trans e5).mut hl0, g1, ?_, g3⟩
          rw [rs, km]
          exact g2
        · have km : keyMarks k p key = dkM k p key := (if_neg nb).trans (if_neg (of_decide_eq_false hb2))
          have eY := eX.trans e4
          refine s_extW ((e3.trans e4) _ _ hL) (ev_var rfl) fun H5 e5 => ?_
          refine v_callM (ev_var rfl) ((eY.trans e5) _ _ hP.ob) rfl (vs := [vn key]) (fun _ _ => ea_cons (ev_var rfl) ea_nil) fun H6 e6 => ?_
          refine ⟨_, ⟨a, bA, dx, k, p, key, rfl, ((hP.ex eY).ex e5).ex e6, ki, rfl⟩, fun H7 l2 cs e7 hl2 h7 m7 o7 => ?_⟩
          have e37 := ((((e3.trans e4).trans e5).trans e6).trans e7)
          have dl := m7.length
          have dk : (dkM k p key).length ≤ 2 := by
            rw [← km]
            exact keyMarks_len k p key
          refine ⟨l, l2, refs bs, refs cs, rfl, rfl, e37 _ _ hL, h7, sz_of (by rw [refs_length, refs_length]; omega), ?_⟩
          have offc : Off H7 l cs := by
            -- the new marks' lists are the board's or new: none is found's
            intro b hb' mk k' s' q
            rintro rfl
            exact absurd q (by
              intro _
              have : ∀ {as : List Addr} {L : List (Nat × Nat × Nat)}, MarksAt H7 as L → b ∈ as → ∃ x ∈ L, MarkAt H7 b x := by
                intro as
                induction as with
                | nil => intro L _ h; cases h
                | cons y ys ih =>
                  intro L m h
                  cases L with
                  | nil => exact m.elim
                  | cons z zs =>
                    rcases List.mem_cons.mp h with c | c
                    · subst c
                      exact ⟨z, List.mem_cons_self, m.1⟩
                    · obtain ⟨x, hx, hm⟩ := ih m.2 c
                      exact ⟨x, List.mem_cons_of_mem _ hx, hm⟩
              obtain ⟨x, hx, mk', w1, w2⟩ := this m7 hb'
              rw [q] at w1
              injection w1 with w1
              injection w1 with w1
              have w3 := (List.cons.inj w1).1
              injection w3 with w3
              rw [← w3, e37 _ _ hL] at w2
              injection w2 with w2
              injection w2 with w2
              -- a list of references is no list of numbers, unless both are empty
              have ul : 1 ≤ (u8b x.1).length := by
                unfold u8b
                rw [List.length_map]
                exact (utf8_len x.1).1
              cases bs with
              | nil =>
                have := congrArg List.length w2
                rw [vns_length] at this
                have z : (refs []).length = 0 := rfl
                omega
              | cons b0 bt =>
                cases hu : u8b x.1 with
                | nil =>
                  rw [hu] at ul
                  cases ul
                | cons u0 ut =>
                  rw [hu] at w2
                  have := (List.cons.inj w2).1
                  cases this)
          have m8 := (hM.ex e37).append m7
          have o8 := (hO.ex e37 hM).append offc
          refine ⟨_, bs ++ cs, rfl, ((((eY.trans e5).trans e6).trans e7)).mut hl0, ?_, ?_, ?_⟩
          · rw [refs_append]
            exact upd_same
          · rw [rs, km]
            exact m8.upd (e37 _ _ hL) o8
          · exact o8.upd (e37 _ _ hL) m8
    · rintro σ H' ⟨v3, bs, rfl, eH, hL, hM, hO⟩
      refine s_ret (ev_var rfl) fun H4 e4 => ?_
      have tn : ((endM k p : Int) - (p.lowest : Int)).toNat = endM k p - p.lowest := by omega
      rw [tn] at hM
      exact kQ H4 l bs (eH.trans e4) hl0 (e4 _ _ hL) (hM.ex e4) (hO.ex e4 hM)
end
end Kx

-- KPart4
namespace Kx
open PySem PySem.Spec PyProof.Rows L2 Evl
section
variable {P : Program} {w : World} {K : PySem.W.Frag} {mg : Str → Option Value} {base : Heap} {CBoard CNumberedLine CStrokes CNews CPart CPlainLine CHall : Addr}
theorem marks_key {k : Kb} {p : PartM} (h : k.left + k.middle ≤ k.size) {x : Nat × Nat × Nat} (hx : x ∈ marksM k p) : x.2.1 < k.size := by
  unfold marksM at hx
  rw [List.mem_flatMap] at hx
  obtain ⟨i, hi, hx⟩ := hx
  rw [List.mem_range'_1] at hi
  have el := end_le (p := p) h
  have xi : x.2.1 = i := by
    unfold keyMarks at hx
    split at hx
    · rw [List.mem_singleton] at hx
      rw [hx]
    · split at hx
      · rw [List.mem_singleton] at hx
        rw [hx]
      · rcases List.mem_append.mp hx with q | q
        · split at q
          · rw [List.mem_singleton] at q
            rw [q]
          · cases q
        · split at q
          · rw [List.mem_singleton] at q
            rw [q]
          · cases q
  omega
theorem ev_maxN {σ : L2.St} {H : Hp} {ta tb : TE} {n m : Nat} (ha : Ev ta σ H (vn n)) (hb : Ev tb σ H (vn m)) : Ev (tCB rMax2 (tCons ta (tCons tb tNil))) σ H (vn (if n < m then m else n)) := ev_is (ev_max2 ha hb) (by
  by_cases c : n < m
  · rw [if_pos c, if_pos (by omega)]
  · rw [if_neg c, if_neg (by omega)])
/-! ### press_mark -/
def spPressMark (K : PySem.W.Frag) (CP CB : Addr) : Sp := fun vs H Q _ => ∃ (a tA bA dx place : Nat) (k : Kb) (p : PartM) (b : List Nat), vs = [.ref a, .ref tA, vn place] ∧ PartAt CP CB H a bA k p dx ∧ p.lowest ≤ 1000 ∧ SqL K H tA (vns b) ∧
  (∀ n x, pmark (b.drop place) (marksM k p) 0 = (n, some x) → ∀ (H' : Hp) (t : Addr), Fr [a] H H' → H' t = some (.tup [vn n, .bl true]) → PartAt CP CB H' a bA k (pressM k p x.2.1 x.2.2) dx → Q (.ref t) H') ∧
  (∀ n, pmark (b.drop place) (marksM k p) 0 = (n, none) → ∀ (H' : Hp) (t : Addr), Evl.Ex H H' → H' t = some (.tup [vn n, .bl false]) → Q (.ref t) H')
theorem scPartPressMark : FnScope ["self", "text", "place", "longest", "mark", "key", "settled", "length"] ["self", "text", "place"] (defScope tPartPressMark) := ⟨rfl, rfl, rfl, by decide +kernel, rfl, by decide +kernel, by decide +kernel⟩
theorem ok_Part_press_mark {f f1 f2 f3 : Addr} {fd fd1 fd2 fd3 : FuncData} (D : RawM K CPart "press_mark" "Part.press_mark" tPartPressMark f fd) (T : Tx K mg CBoard CNumberedLine CStrokes CNews CPart CPlainLine CHall) (G_Part_marks : OkM P w K mg base 2 CPart "marks" ["self"] (spMarks CPart CBoard) f1 fd1)
    (G_shared_length : Ok P w K mg base 1 "shared_length" ["text", "place", "mark"] (spSharedLength K) f2 fd2) (G_Part_press : OkM P w K mg base 1 CPart "press" ["self", "key", "settled"] (spPartPress CPart CBoard) f3 fd3) :
    OkM P w K mg base 3 CPart "press_mark" ["self", "text", "place"] (spPressMark K CPart CBoard) f fd := by
  refine ⟨D.fn.ok scPartPressMark (fun vs H Q E h => ?_) (fun cdv A outer s H vs Q E hr h => ⟨_,
    (pss_cons (ps_set (i := 3) scPartPressMark.nd rfl (Or.inl rfl) pe_n)
      (pss_cons (ps_for PassesOwn.never rfl (pi_list (pe_ownM0 G_Part_marks T.c_Part hr (pv 0))) (pg_tup rfl (pgs_cons (pg_name (i := 4) scPartPressMark.nd rfl (Or.inl rfl)) (pgs_cons (pg_name (i := 5) scPartPressMark.nd rfl (Or.inl rfl)) (pgs_cons (pg_name (i := 6) scPartPressMark.nd rfl (Or.inl rfl)) pgs_nil)))) (pss_cons (ps_set (i := 7) scPartPressMark.nd rfl (Or.inl rfl) (pe_own G_shared_length hr (pa_cons (pv 1) (pa_cons (pv 2) (pa_cons (pv 4) pa_nil)))))
      (pss_cons (ps_if (pt_cmpR on_eq (pv 7) (pe_callB call_len_seq (by rfl) T.b_len PySem.boot_len (pa_cons (pv 4) pa_nil)) (nomark _)) (pss_cons (ps_expr (pe_ownM G_Part_press T.c_Part hr (pv 0) (pa_cons (pv 5) (pa_cons (pv 6) pa_nil))))
      (pss_one (ps_ret (pe_tup (pa_cons (pv 7) (pa_cons pe_bl pa_nil)))))) pss_nil)
      (pss_one (ps_set (i := 3) scPartPressMark.nd rfl (Or.inl rfl) (pe_callB (call_max2 rfl) (by rfl) T.b_max (by decide +kernel) (pa_cons (pv 3) (pa_cons (pv 7) pa_nil))))))))
      (pss_one (ps_ret (pe_tup (pa_cons (pv 3) (pa_cons pe_bl pa_nil))))))), ?_⟩), D.at_, D.fn.binds fun _ _ _ _ _ _ us hl => match us, hl with | [_, _, _], _ => rfl⟩
  · obtain ⟨a, tA, bA, dx, place, k, p, b, rfl, _⟩ := h
    rfl
  · obtain ⟨a, tA, bA, dx, place, k, p, b, rfl, hP, hlow, hT, kS, kN⟩ := h
    obtain ⟨bd, lA, dA, as, hB⟩ := id hP.bd
    have ko := kb_ok hB.ok
    refine q_asg ev_n fun H1 e1 => ?_
    show tMeth CPart "marks" (spMarks CPart CBoard) [] E0 (tVar 0) tNil _ H1 _
    refine v_callM (vs := []) (ev_var rfl) (e1 _ _ hP.ob) rfl (fun _ _ => ea_nil) fun H2 e2 => ?_
    refine ⟨_, ⟨a, bA, dx, k, p, rfl, (hP.ex e1).ex e2, hlow, rfl⟩, fun H3 l cs e3 hl h3 m3 o3 => ?_⟩
    have e13 := (e1.trans e2).trans e3
    refine ⟨l, rfl, ⟨refs cs, sq_of h3⟩, ?_⟩
    have ml := m3.length
    have mkey : ∀ x ∈ marksM k p, x.2.1 ≤ 1000 := fun x hx => by
      have := marks_key ko.2.2.1 hx
      omega
    generalize hLL : marksM k p = LL at m3 ml kS kN mkey
    refine for_list (xs := refs cs) (fun i σ H' => ∃ (lo : Nat) (v4 v5 v6 v7 : Option V), σ = [some (.ref a), some (.ref tA), some (vn place), some (vn lo), v4, v5, v6, v7] ∧ Evl.Ex H3 H' ∧ pmark (b.drop place) (LL.drop i) lo = pmark (b.drop place) LL 0)
      ⟨0, none, none, none, none, rfl, Evl.Ex.refl _, rfl⟩ (fun i σ H' _ ⟨_, _, _, _, _, _, e, _⟩ => sq_of (e _ _ h3)) ?_ ?_
    · rintro i x σ H' hi ⟨lo, v4, v5, v6, v7, rfl, eH, hpm⟩
      have lt := (List.getElem?_eq_some_iff.mp hi).1
      rw [refs_length, ml] at lt
      have hgx : LL[i]? = some LL[i] := List.getElem?_eq_getElem lt
      have dc : LL.drop i = LL[i] :: LL.drop (i + 1) := List.drop_eq_getElem_cons lt
      generalize LL[i] = y at hgx dc
      obtain ⟨q, hq, mk, hq1, hq2⟩ := m3.at hgx
      have xq : x = .ref q := by
        rw [refs_at hq] at hi
        exact (Option.some.inj hi).symm
      subst xq
      rw [dc] at hpm
      refine ⟨q, _, rfl, st_of (eH _ _ hq1), rfl, _, _, rfl, _, _, rfl, _, _, rfl, rfl, ?_⟩
      have eA := e13.trans eH
      refine q_asg (v := vn (sharedL (b.drop place) (u8b y.1))) (ev_call (ea_cons (ev_var rfl) (ea_cons (ev_var rfl) (ea_cons (ev_var rfl) ea_nil))) (spV_is fun H'' e'' => ⟨tA, mk, b, u8b y.1, place, rfl, ex_l (eA.trans e'') hT, sq_of ((eH.trans e'') _ _ hq2), rfl⟩)) fun H4 e4 => ?_
      have eq4 := (eH.trans e4) _ _ hq2
      refine q_when (etN (g := fun n m => decide (n = m)) (n := sharedL (b.drop place) (u8b y.1)) (m := (u8b y.1).length) (ev_var rfl) (ev_lenN' (ev_var rfl) (sq_of eq4)) trivial) (fun hb H5 e5 => ?_) (fun hb H5 e5 => ?_)
      · have full := of_decide_eq_true hb
        have res : pmark (b.drop place) LL 0 = (sharedL (b.drop place) (u8b y.1), some y) := by
          rw [← hpm]
          show (if sharedL (b.drop place) (u8b y.1) = (u8b y.1).length then _ else _) = _
          rw [if_pos full]
        have e35 := (eA.trans e4).trans e5
        refine q_callM (ev_var rfl) (e35 _ _ hP.ob) rfl (fun _ _ => ea_cons (ev_var rfl) (ea_cons (ev_var rfl) ea_nil)) fun H6 e6 => ?_
        refine ⟨a, bA, dx, k, p, y.2.1, y.2.2, rfl, hP.ex (e35.trans e6), mkey y (List.mem_iff_getElem?.mpr ⟨i, hgx⟩), fun H7 f7 p7 => ?_⟩
        refine s_retU (eu_tup (ea_cons (ev_var rfl) (ea_cons ev_c ea_nil)) few) fun t H8 ht e8 h8 => ?_
        exact kS _ _ res H8 t (((Fr.of (e35.trans e6)).trans f7).trans (Fr.of e8)) h8 (p7.ex e8)
      · have nf := of_decide_eq_false hb
        refine s_asg (ev_maxN (ev_var rfl) (ev_var rfl)) fun H6 e6 => ?_
        refine ⟨_, _, _, _, _, rfl, ((eH.trans e4).trans e5).trans e6, ?_⟩
        rw [← hpm]
        show _ = (if sharedL (b.drop place) (u8b y.1) = (u8b y.1).length then _ else _)
        rw [if_neg nf]
    · rintro σ H' ⟨lo, v4, v5, v6, v7, rfl, eH, hpm⟩
      rw [refs_length, ml, List.drop_length] at hpm
      refine s_retU (eu_tup (ea_cons (ev_var rfl) (ea_cons ev_c ea_nil)) few) fun t H4 ht e4 h4 => ?_
      exact kN lo hpm.symm H4 t ((e13.trans eH).trans e4) h4

/-! ### read_outline -/
theorem Ex.fr {S : List Addr} {H H1 H2 : Hp} (e : Evl.Ex H H1) (f : Fr S H1 H2) (n : ∀ s ∈ S, H s = none) : Evl.Ex H H2 := fun b o q => f b o (e b o q) fun z => by
  rw [n b z] at q
  cases q
def spReadOutline (K : PySem.W.Frag) (CB : Addr) : Sp := fun vs H Q _ => ∃ (bA tA : Addr) (k : Kb) (b : List Nat), vs = [.ref bA, .ref tA] ∧ IsBoard CB H bA k ∧ SqL K H tA (vns b) ∧ b.length ≤ 90000 ∧
  (∀ o q, readM k (b.length + 1) part0 [] b 0 = (some o, q) → ∀ (H' : Hp) (t cA : Addr), Evl.Ex H H' → H' t = some (.tup [.ref cA, .non]) → H' cA = some (.lst (vns o)) → H cA = none → Q (.ref t) H') ∧
  (∀ q, readM k (b.length + 1) part0 [] b 0 = (none, q) → ∀ (H' : Hp) (t : Addr), Evl.Ex H H' → H' t = some (.tup [.non, vn q]) → Q (.ref t) H')
theorem scReadOutline : FnScope ["board", "text", "chords", "part", "place", "length", "whole"] ["board", "text"] (defScope tReadOutline) := ⟨rfl, rfl, rfl, by decide +kernel, rfl, by decide +kernel, by decide +kernel⟩
/-- (a list and one more, None) -/
theorem ok_read_outline {f f1 f2 f3 f4 : Addr} {fd fd1 fd2 fd3 fd4 : FuncData} (D : Raw K mg "read_outline" tReadOutline f fd) (T : Tx K mg CBoard CNumberedLine CStrokes CNews CPart CPlainLine CHall) (G_Part : OkC P w K mg base 1 "Part" CPart ["self", "board"] (spPartInit CPart CBoard) f1 fd1)
    (G_Part_may_dash : OkM P w K mg base 1 CPart "may_dash" ["self"] (spMayDash CPart CBoard) f2 fd2) (G_Part_dash : OkM P w K mg base 1 CPart "dash" ["self"] (spDash CPart CBoard) f3 fd3) (G_Part_press_mark : OkM P w K mg base 3 CPart "press_mark" ["self", "text", "place"] (spPressMark K CPart CBoard) f4 fd4) :
    Ok P w K mg base 4 "read_outline" ["board", "text"] (spReadOutline K CBoard) f fd := by
  refine ⟨D.fn.ok scReadOutline (fun vs H Q E h => ?_) (fun cdv A outer s H vs Q E hr h => ⟨_,
    (pss_cons (ps_set (i := 2) scReadOutline.nd rfl (Or.inl rfl) (pe_lst pa_nil))
      (pss_cons (ps_set (i := 3) scReadOutline.nd rfl (Or.inl rfl) (pe_mkOwn G_Part hr (pa_cons (pv 0) pa_nil)))
      (pss_cons (ps_set (i := 4) scReadOutline.nd rfl (Or.inl rfl) pe_n)
      (pss_cons (ps_while PassesOwn.never (pt_cmpR on_lt (pv 4) (pe_callB call_len_seq (by rfl) T.b_len PySem.boot_len (pa_cons (pv 1) pa_nil)) (nomark _)) (pss_one (ps_if (PW.pt (pw_and (pt_cmpR on_eq (pe_ix ix_list (pv 1) (pv 4) (fun _ _ => rfl)) (pe_gi T.g_SLASH) (nomark _)) (pw_and (pt_val (pe_fld (pv 3) rfl)) (pw_and1 (pt_cmpR on_lt (pe_callB call_len_seq (by rfl) T.b_len PySem.boot_len (pa_cons (pv 2) pa_nil)) (pe_op on_sub (pe_gi T.g_MOST_CHORDS) pe_n) (nomark _)))))) (pss_cons (ps_expr (pe_bm PySem.F.plainAttrs_list PySem.F.slot_list_append PySem.F.type_list_append mt_append (pv 2) (pa_cons (pe_fld (pv 3) rfl) pa_nil)))
      (pss_cons (ps_set (i := 3) scReadOutline.nd rfl (Or.inl rfl) (pe_mkOwn G_Part hr (pa_cons (pv 0) pa_nil)))
      (pss_one (ps_aug (i := 4) scReadOutline.nd rfl (Or.inl rfl) pe_n ip_add)))) (pss_one (ps_if (PW.pt (pw_and (pt_cmpR on_eq (pe_ix ix_list (pv 1) (pv 4) (fun _ _ => rfl)) (pe_gi T.g_DASH) (nomark _)) (pw_and1 (pt_val (pe_ownM0 G_Part_may_dash T.c_Part hr (pv 3)))))) (pss_cons (ps_expr (pe_ownM0 G_Part_dash T.c_Part hr (pv 3)))
      (pss_one (ps_aug (i := 4) scReadOutline.nd rfl (Or.inl rfl) pe_n ip_add))) (pss_cons (ps_asg (pe_ownM G_Part_press_mark T.c_Part hr (pv 3) (pa_cons (pv 1) (pa_cons (pv 4) pa_nil))) (pg_tup rfl (pgs_cons (pg_name (i := 5) scReadOutline.nd rfl (Or.inl rfl)) (pgs_cons (pg_name (i := 6) scReadOutline.nd rfl (Or.inl rfl)) pgs_nil))))
      (pss_cons (ps_aug (i := 4) scReadOutline.nd rfl (Or.inl rfl) (pv 5) ip_add)
      (pss_one (ps_if (pt_not (pt_val (pv 6))) (pss_one (ps_ret (pe_tup (pa_cons pe_non (pa_cons (pv 4) pa_nil))))) pss_nil)))))))))
      (pss_cons (ps_if (pt_not (pt_val (pe_fld (pv 3) rfl))) (pss_one (ps_ret (pe_tup (pa_cons pe_non (pa_cons (pv 4) pa_nil))))) pss_nil)
      (pss_one (ps_ret (pe_tup (pa_cons (pe_op op_cat (pv 2) (pe_lst (pa_cons (pe_fld (pv 3) rfl) pa_nil))) (pa_cons pe_non pa_nil)))))))))), ?_⟩), D.at_, D.fn.kp, D.fn.binds fun _ _ _ _ _ _ us hl => match us, hl with | [_, _], _ => rfl⟩
  · obtain ⟨bA, tA, k, b, rfl, _⟩ := h
    rfl
  · obtain ⟨bA, tA, k, b, rfl, hB, hT, hlen, kS, kN⟩ := h
    obtain ⟨bd, lA, dA, as, hB'⟩ := id hB
    have ko := kb_ok hB'.ok
    generalize hRES : readM k (b.length + 1) part0 [] b 0 = RES at kS kN
    refine q_asgL (el_lst ea_nil few) fun cA H1 hc e1 h1 => ?_
    refine q_asgM (ea_cons (ev_var rfl) ea_nil) fun pA pd H2 e2 hpA hpd nd => ?_
    have bx := born_ex (C := CPart) hpA hpd nd
    have e12 := e1.trans e2
    refine ⟨pA, bA, pd, k, rfl, born_at, hB.ex (e12.trans bx), fun H3 f3 p3 => ⟨rfl, ?_⟩⟩
    have pA0 : H pA = none := fresh_back e12 hpA
    have e3 : Evl.Ex H H3 := Ex.fr (e12.trans bx) f3 fun s hs => by
      rw [List.mem_singleton] at hs
      rw [hs]
      exact pA0
    have cp : cA ≠ pA := ne_of_none (e2 _ _ h1) hpA
    have h3 : H3 cA = some (.lst []) := f3 _ _ (bx _ _ (e2 _ _ h1)) (by simpa using cp)
    refine q_asg ev_n fun H4 e4 => ?_
    refine q_while (fun z σ H' => ∃ (p : PartM) (pA pd place f : Nat) (chords : List Nat) (v5 v6 : Option V), σ = [some (.ref bA), some (.ref tA), some (.ref cA), some (.ref pA), some (vn place), v5, v6] ∧ Evl.Ex H H' ∧ H' cA = some (.lst (vns chords)) ∧ H pA = none ∧ PartAt CPart CBoard H' pA bA k p pd ∧
      p.lowest ≤ k.size ∧ chords.length ≤ 9 ∧ place ≤ b.length ∧ b.length - place + 1 ≤ f ∧ readM k f p chords (b.drop place) place = RES ∧ z = b.length - place) b.length
      ⟨part0, pA, pd, 0, b.length + 1, [], none, none, rfl, e3.trans e4, e4 _ _ h3, pA0, p3.ex e4, Nat.zero_le _, Nat.zero_le _, Nat.zero_le _, Nat.le_refl _, hRES, rfl⟩ ?_
    rintro z σ H' ⟨p, pA, pd, place, fu, chords, v5, v6, rfl, eH, hC, pA0, hP, hlow, hcl, hpl, hfu, hres, rfl⟩
    obtain ⟨f, rfl⟩ : ∃ f, fu = f + 1 := ⟨fu - 1, by omega⟩
    have cp : cA ≠ pA := by
      rintro rfl
      rw [hP.ob] at hC
      cases hC
    have hT' := ex_l eH hT
    refine ⟨decide (place < b.length), etN (g := fun n m => decide (n < m)) (n := place) (m := b.length) (ev_var rfl) (ev_lenN' (ev_var rfl) hT') trivial, fun hb H5 e5 => ?_, fun hb H5 e5 => ?_⟩
    · -- a byte is there
      have lt := of_decide_eq_true hb
      have hx : b[place]? = some b[place] := List.getElem?_eq_getElem lt
      have dc : b.drop place = b[place] :: b.drop (place + 1) := List.drop_eq_getElem_cons lt
      generalize b[place] = x at hx dc
      have eq : readM k (f + 1) p chords (b.drop place) place = if (decide (x = 47) && (p.complete && decide (chords.length < 9))) = true then readM k f part0 (chords ++ [p.chord]) (b.drop (place + 1)) (place + 1)
          else if (decide (x = 45) && mayDashM k p) = true then readM k f (dashM k p) chords (b.drop (place + 1)) (place + 1)
          else match pmark (b.drop place) (marksM k p) 0 with
            | (n, some x) => readM k f (pressM k p x.2.1 x.2.2) chords ((b.drop place).drop n) (place + n)
            | (n, none) => (none, place + n) := by
        rw [dc]
        rfl
      rw [eq] at hres
      have eH5 := eH.trans e5
      have hP5 := hP.ex e5
      have hC5 := e5 _ _ hC
      have bx5 : ∀ H6, Evl.Ex H5 H6 → Ev (tOp (rIxL K) (tVar 1) (tVar 4)) [some (.ref bA), some (.ref tA), some (.ref cA), some (.ref pA), some (vn place), v5, v6] H6 (vn x) := fun H6 e6 => ev_ixN (ev_var rfl) (ev_var rfl) (ex_l (eH5.trans e6) hT) hx
      refine ⟨_, fun σ2 H2 h => h, ?_⟩
      refine s_if (et_and (etN (g := fun n m => decide (n = m)) (n := x) (m := 47) (bx5 H5 (Evl.Ex.refl _)) ev_c trivial) fun _ => et_and (et_B (b := p.complete) (ev_fld (ev_var rfl) hP5.ob T.c_Part T.n_Part_complete rfl)) fun _ =>
        etN (g := fun n m => decide (n < m)) (n := chords.length) (m := 9) (ev_lenN' (ev_var rfl) (sq_of hC5)) (evN (n := 10) (m := 1) ev_c ev_n (by decide)) trivial) (fun b1 H6 e6 => ?_) (fun b1 H6 e6 => ?_)
      · -- a slash
        rw [if_pos b1] at hres
        rw [Bool.and_eq_true, Bool.and_eq_true, decide_eq_true_eq, decide_eq_true_eq] at b1
        refine q_app (e6 _ _ hC5) (ev_var rfl) (ev_fld (ev_var rfl) (e6 _ _ hP5.ob) T.c_Part T.n_Part_chord (v := vn p.chord) rfl) (by rw [vns_length]; omega) fun H7 e7 => ?_
        have e57 := (eH5.trans e6).trans e7
        have eX := e57.mut (o := .lst (vns chords ++ [vn p.chord])) hc
        refine q_asgM (ea_cons (ev_var rfl) ea_nil) fun pA2 pd2 H8 e8 hpA2 hpd2 nd2 => ?_
        have bx8 := born_ex (C := CPart) hpA2 hpd2 nd2
        refine ⟨pA2, bA, pd2, k, rfl, born_at, hB.ex ((eX.trans e8).trans bx8), fun H9 f9 p9 => ⟨rfl, ?_⟩⟩
        have pA20 : H pA2 = none := fresh_back (eX.trans e8) hpA2
        have e9 : Evl.Ex H H9 := Ex.fr ((eX.trans e8).trans bx8) f9 fun s hs => by
          rw [List.mem_singleton] at hs
          rw [hs]
          exact pA20
        have cp2 : cA ≠ pA2 := ne_of_none (e8 _ _ upd_same) hpA2
        have h9 : H9 cA = some (.lst (vns (chords ++ [p.chord]))) := (f9 _ _ (bx8 _ _ (e8 _ _ upd_same)) (by simpa using cp2)).trans (by rw [vns_append]; rfl)
        refine s_augN rfl ev_n fun H10 e10 => ?_
        exact ⟨b.length - (place + 1), by omega, part0, pA2, pd2, place + 1, f, chords ++ [p.chord], v5, v6, rfl, e9.trans e10, e10 _ _ h9, pA20, p9.ex e10, Nat.zero_le _, by rw [List.length_append]; show _ + 1 ≤ 9; omega, lt, by omega, hres, rfl⟩
      · rw [if_neg (by rw [b1]; decide)] at hres
        have hP6 := hP5.ex e6
        refine s_if (et_and (etN (g := fun n m => decide (n = m)) (n := x) (m := 45) (bx5 H6 e6) ev_c trivial) fun _ => et_B (b := mayDashM k p) (ev_meth (ev_var rfl) hP6.ob rfl ea_nil (spV_is fun H'' e'' => ⟨pA, bA, pd, k, p, rfl, hP6.ex e'', rfl⟩))) (fun b2 H7 e7 => ?_) (fun b2 H7 e7 => ?_)
        · -- a dash
          rw [if_pos b2] at hres
          have hP7 := hP6.ex e7
          refine q_callM (vs := []) (ev_var rfl) hP7.ob rfl (fun _ _ => ea_nil) fun H8 e8 => ?_
          refine ⟨pA, bA, pd, k, p, rfl, hP7.ex e8, fun H9 f9 p9 => ?_⟩
          have e59 := ((eH5.trans e6).trans e7).trans e8
          have e9 : Evl.Ex H H9 := Ex.fr e59 f9 fun s hs => by
            rw [List.mem_singleton] at hs
            rw [hs]
            exact pA0
          have h9 : H9 cA = some (.lst (vns chords)) := f9 _ _ (((e6.trans e7).trans e8) _ _ hC5) (by simpa using cp)
          refine s_augN rfl ev_n fun H10 e10 => ?_
          exact ⟨b.length - (place + 1), by omega, dashM k p, pA, pd, place + 1, f, chords, v5, v6, rfl, e9.trans e10, e10 _ _ h9, pA0, p9.ex e10, ko.2.2.1, hcl, lt, by omega, hres, rfl⟩
        · rw [if_neg (by rw [b2]; decide)] at hres
          have hP7 := hP6.ex e7
          show tMeth CPart "press_mark" (spPressMark K CPart CBoard) [] E0 (tVar 3) (tCons (tVar 1) (tCons (tVar 4) tNil)) _ H7 _
          have e57 := (eH5.trans e6).trans e7
          refine v_callM (vs := [.ref tA, vn place]) (ev_var rfl) hP7.ob rfl (fun _ _ => ea_cons (ev_var rfl) (ea_cons (ev_var rfl) ea_nil)) fun H8 e8 => ?_
          refine ⟨pA, tA, bA, pd, place, k, p, b, rfl, hP7.ex e8, by omega, ex_l (e57.trans e8) hT, fun n y hpm H9 t f9 ht p9 => ?_, fun n hpm H9 t e9 ht => ?_⟩
          · -- a whole mark
            rw [hpm] at hres
            dsimp only at hres
            obtain ⟨pre, post, eL, _, full, hn⟩ := pmark_some hpm
            have ym : y ∈ marksM k p := by
              rw [eL]
              exact List.mem_append_right _ List.mem_cons_self
            have yk := marks_key ko.2.2.1 ym
            have n1 : 1 ≤ n := by
              rw [hn]
              unfold u8b
              rw [List.length_map]
              exact (utf8_len y.1).1
            have n2 : n ≤ b.length - place := by
              obtain ⟨r, hr⟩ := (sharedL_full _ _).mp full
              have := congrArg List.length hr
              rw [List.length_drop, List.length_append] at this
              omega
            have e9 : Evl.Ex H H9 := Ex.fr (e57.trans e8) f9 fun s hs => by
              rw [List.mem_singleton] at hs
              rw [hs]
              exact pA0
            have h9 : H9 cA = some (.lst (vns chords)) := f9 _ _ (((e6.trans e7).trans e8) _ _ hC5) (by simpa using cp)
            refine ⟨t, _, rfl, st_of ht, rfl, _, _, rfl, _, _, rfl, rfl, ?_⟩
            refine q_augN rfl (ev_var (v := vn n) rfl) fun H10 e10 => ?_
            refine s_when (et_not (et_B (b := true) (ev_var rfl))) (fun hb _ _ => by cases hb) (fun _ H11 e11 => ?_)
            rw [List.drop_drop] at hres
            exact ⟨b.length - (place + n), by omega, _, pA, pd, place + n, f, chords, _, _, rfl, (e9.trans e10).trans e11, (e10.trans e11) _ _ h9, pA0, p9.ex (e10.trans e11), by show y.2.1 + 1 ≤ k.size; omega, hcl, by omega, by omega, hres, rfl⟩
          · -- none: the fault's place
            rw [hpm] at hres
            dsimp only at hres
            refine ⟨t, _, rfl, st_of ht, rfl, _, _, rfl, _, _, rfl, rfl, ?_⟩
            refine q_augN rfl (ev_var (v := vn n) rfl) fun H10 e10 => ?_
            refine s_when (et_not (et_B (b := false) (ev_var rfl))) (fun _ H11 e11 => ?_) (fun hb _ _ => by cases hb)
            refine s_retU (eu_tup (ea_cons ev_c (ea_cons (ev_var rfl) ea_nil)) few) fun t2 H12 ht2 e12 h12 => ?_
            exact kN (place + n) hres.symm H12 t2 (((((e57.trans e8).trans e9).trans e10).trans e11).trans e12) h12
    · -- the text's end
      have eq0 : place = b.length := by
        have := of_decide_eq_false hb
        omega
      have dz : b.drop place = [] := by rw [eq0, List.drop_length]
      rw [dz] at hres
      have hres' : (if p.complete = true then (some (chords ++ [p.chord]), 0) else (none, place)) = RES := hres
      have eH5 := eH.trans e5
      have hP5 := hP.ex e5
      refine q_when (et_not (et_B (b := p.complete) (ev_fld (ev_var rfl) hP5.ob T.c_Part T.n_Part_complete rfl))) (fun hb2 H6 e6 => ?_) (fun hb2 H6 e6 => ?_)
      · have nc : ¬ p.complete = true := by
          intro z
          rw [z] at hb2
          cases hb2
        rw [if_neg nc] at hres'
        refine s_retU (eu_tup (ea_cons ev_c (ea_cons (ev_var rfl) ea_nil)) few) fun t2 H7 ht2 e7 h7 => ?_
        exact kN place hres'.symm H7 t2 ((eH5.trans e6).trans e7) h7
      · have c : p.complete = true := by
          cases z : p.complete
          · rw [z] at hb2
            cases hb2
          · rfl
        rw [if_pos c] at hres'
        have hP6 := hP5.ex e6
        have hC6 := (e5.trans e6) _ _ hC
        -- return (chords + [part.chord], None)
        show tTup (tCons (tOp rCat (tVar 2) (tLst (tCons (tFld K (tVar 3) "chord") tNil))) (tCons (tC .non) tNil)) _ H6 _
        have hcat : EvL (tOp rCat (tVar 2) (tLst (tCons (tFld K (tVar 3) "chord") tNil))) [some (.ref bA), some (.ref tA), some (.ref cA), some (.ref pA), some (vn place), v5, v6] H6 (vns chords ++ [vn p.chord]) := fun H7 e7 Q q =>
          ev_var (i := 2) (v := .ref cA) rfl H7 (Evl.Ex.refl _) _ fun H8 e8 => (el_lst (ea_cons (ev_fld (ev_var rfl) ((e7.trans e8) _ _ hP6.ob) T.c_Part T.n_Part_chord (v := vn p.chord) rfl) ea_nil) few) H8 (Evl.Ex.refl _) _ fun y H9 hy e9 h9 =>
            ⟨cA, y, vns chords, [vn p.chord], rfl, rfl, ((e7.trans e8).trans e9) _ _ hC6, h9, sz_of (by rw [vns_length]; show chords.length + 1 ≤ _; omega), fun l hl => q l _ (fresh_back (e8.trans e9) hl) ((e8.trans e9).trans (Evl.Ex.new hl)) upd_same⟩
        refine hcat H6 (Evl.Ex.refl _) _ fun l H7 hl e7 h7 => ?_
        refine ⟨by show 2 ≤ sizeLine; decide, fun t ht => ?_⟩
        have lt : l ≠ t := ne_of_none h7 ht
        refine kS (chords ++ [p.chord]) 0 hres'.symm _ t l (((eH5.trans e6).trans e7).trans (Evl.Ex.new ht)) upd_same ?_ (fresh_back (eH5.trans e6) hl)
        rw [upd_ne lt, vns_append]
        exact h7
end
end Kx

-- XKb
namespace Kx
open PySem PySem.Spec PyProof.Rows L2 Evl KeysCalls

/-! ### what the program asks of a keyboard is what the document asks -/
theorem isLab_may (n : Nat) : isLab n = CdKeys.mayLabel n := by
  unfold isLab CdKeys.mayLabel Cd.isShown Cd.isChar CdKeys.isDigit isDig
  rw [Bool.eq_iff_iff]
  simp only [List.contains_cons, List.contains_nil, Bool.and_eq_true, Bool.or_eq_true, Bool.not_eq_true', decide_eq_true_eq, decide_eq_false_iff_not, Bool.or_eq_false_iff, Bool.and_eq_false_iff, bne_iff_ne, beq_eq_false_iff_ne, Cd.SPACE, CdKeys.BAR, CdKeys.DASH, CdKeys.SLASH, ne_eq]
  show (_ ∧ _) ↔ (_ ∧ _)
  have e1 : ((n : Cd.Char_) = 127) = ((n : Nat) = 127) := rfl
  have e2 : ((n : Cd.Char_) = 32) = ((n : Nat) = 32) := rfl
  have e3 : ((n : Cd.Char_) = 35) = ((n : Nat) = 35) := rfl
  have e4 : ((n : Cd.Char_) = 45) = ((n : Nat) = 45) := rfl
  have e5 : ((n : Cd.Char_) = 47) = ((n : Nat) = 47) := rfl
  constructor
  · rintro ⟨⟨a1, a2⟩, a3, ⟨⟨⟨b1, b2⟩, b3⟩, b4⟩, b5⟩
    refine ⟨⟨?_, ?_, ?_⟩, ?_, ?_, ?_, ?_, ?_, trivial⟩
    · show (n : Nat) < 55296 ∨ 57344 ≤ (n : Nat) ∧ (n : Nat) < 1114112
      omega
    · show 32 ≤ (n : Nat)
      omega
    · exact b4
    · exact b5
    · show ¬ (n : Nat) = 32
      omega
    · exact b1
    · exact b2
    · exact b3
  · rintro ⟨⟨a1, a2, a3⟩, b5, b0, b1, b2, b3, _⟩
    have a1' : (n : Nat) < 55296 ∨ 57344 ≤ (n : Nat) ∧ (n : Nat) < 1114112 := a1
    have a2' : 32 ≤ (n : Nat) := a2
    have b0' : ¬ (n : Nat) = 32 := b0
    exact ⟨⟨by omega, by omega⟩, by omega, ⟨⟨⟨b1, b2⟩, b3⟩, a3⟩, b5⟩
def lx (l : List Nat) (i : Nat) : Nat := l.getD i 0
theorem lx_get {l : List Nat} {i : Nat} (h : i < l.length) : l[i] = lx l i := by
  unfold lx
  rw [List.getD_eq_getElem?_getD, List.getElem?_eq_getElem h]
  rfl
theorem nodup_part {l : List Nat} (s c : Nat) : ((l.drop s).take c).Nodup ↔ ∀ i j, s ≤ i → i < j → j < s + c → j < l.length → lx l i ≠ lx l j := by
  rw [List.nodup_iff_pairwise_ne, List.pairwise_iff_getElem]
  simp only [List.length_take, List.length_drop, List.getElem_take, List.getElem_drop]
  constructor
  · intro h i j h1 h2 h3 h4
    have := h (i - s) (j - s) (by omega) (by omega) (by omega)
    rw [lx_get, lx_get] at this
    rwa [show s + (i - s) = i by omega, show s + (j - s) = j by omega] at this
  · intro h i j h1 h2 h3
    rw [lx_get, lx_get]
    exact h _ _ (by omega) (by omega) (by omega) (by omega)
theorem mem_part {l : List Nat} {x : Nat} (s c : Nat) : x ∈ (l.drop s).take c ↔ ∃ i, s ≤ i ∧ i < s + c ∧ i < l.length ∧ lx l i = x := by
  rw [List.mem_iff_getElem]
  simp only [List.length_take, List.length_drop, List.getElem_take, List.getElem_drop]
  constructor
  · rintro ⟨i, h, e⟩
    refine ⟨s + i, by omega, by omega, by omega, ?_⟩
    rw [← lx_get (by omega)]
    exact e
  · rintro ⟨i, h1, h2, h3, e⟩
    refine ⟨i - s, by omega, ?_⟩
    rw [lx_get (by omega), show s + (i - s) = i by omega]
    exact e
theorem drop_part (l : List Nat) (s : Nat) : l.drop s = (l.drop s).take (l.length - s) := by
  rw [List.take_of_length_le (by rw [List.length_drop]; omega)]
theorem kb_key {l g : List Nat} {a m b i : Nat} (hl : l.length = g.length) : (keyboardOf l g a m b).keys[i]? = if i < l.length then some ⟨lx l i, if lx g i = 0 then none else some (lx g i)⟩ else none := by
  unfold keyboardOf
  by_cases h : i < l.length
  · rw [if_pos h, List.getElem?_map, List.getElem?_eq_getElem (by rw [List.length_zip]; omega), List.getElem_zip, lx_get h, lx_get (by omega)]
    rfl
  · rw [if_neg h, List.getElem?_eq_none (by rw [List.length_map, List.length_zip]; omega)]
theorem kb_okp {l g : List Nat} {a m b : Nat} (hl : l.length = g.length) (hb : b ≤ 1) : (keyboardOf l g a m b).ok = true ↔
    (1 ≤ l.length ∧ l.length ≤ 48 ∧ a + m ≤ l.length ∧ (b = 1 → 0 < a) ∧
      (∀ i, i < l.length → (if b = 1 ∧ i = 0 then lx l i = 35 ∧ lx g i = 0 else isLab (lx l i) = true) ∧ (lx g i = 0 ∨ b = 1 ∧ isDig (lx g i) = true)) ∧
      (∀ i j, i < l.length → j < l.length → i ≠ j →
        (((if i < a then 0 else if i < a + m then 1 else 2) = (if j < a then 0 else if j < a + m then 1 else 2) ∨ (if i < a then 0 else if i < a + m then 1 else 2) = 1 ∨ (if j < a then 0 else if j < a + m then 1 else 2) = 1) → lx l i ≠ lx l j) ∧
        (lx g i = 0 ∨ lx g i ≠ lx g j))) := by
  have fine : ∀ i, i < l.length → (CdKeys.keyFine (keyboardOf l g a m b) i ⟨lx l i, if lx g i = 0 then none else some (lx g i)⟩ = true ↔ (if b = 1 ∧ i = 0 then lx l i = 35 ∧ lx g i = 0 else isLab (lx l i) = true) ∧ (lx g i = 0 ∨ b = 1 ∧ isDig (lx g i) = true)) := by
    intro i hi
    unfold CdKeys.keyFine
    have bb : ((keyboardOf l g a m b).bar = true) = (b = 1) := by
      show ((b == 1) = true) = _
      exact propext beq_iff_eq
    have lab : (CdKeys.mayLabel (lx l i) = true) = (isLab (lx l i) = true) := by rw [isLab_may]
    rw [Bool.and_eq_true]
    refine and_congr ?_ ?_
    · by_cases c : b = 1 ∧ i = 0
      · rw [if_pos (⟨bb.symm ▸ c.1, c.2⟩ : (keyboardOf l g a m b).bar = true ∧ i = 0), if_pos c, Bool.and_eq_true, beq_iff_eq]
        refine and_congr (Iff.rfl) ?_
        by_cases g0 : lx g i = 0
        · simp only [g0, if_true, Option.isNone_none]
        · simp only [g0, if_false, Option.isNone_some]
          simp
      · rw [if_neg (fun h => c ⟨bb ▸ h.1, h.2⟩ : ¬ ((keyboardOf l g a m b).bar = true ∧ i = 0)), if_neg c]
        exact iff_of_eq lab
    · by_cases g0 : lx g i = 0
      · simp only [g0, if_true, true_or]
      · simp only [g0, if_false, false_or, Bool.and_eq_true]
        rw [bb]
        exact Iff.rfl
  have apart : ∀ i j, (CdKeys.apartFine (keyboardOf l g a m b) i j ⟨lx l i, if lx g i = 0 then none else some (lx g i)⟩ ⟨lx l j, if lx g j = 0 then none else some (lx g j)⟩ = true ↔
      ((((if i < a then 0 else if i < a + m then 1 else 2) = (if j < a then 0 else if j < a + m then 1 else 2) ∨ (if i < a then 0 else if i < a + m then 1 else 2) = 1 ∨ (if j < a then 0 else if j < a + m then 1 else 2) = 1) → lx l i ≠ lx l j) ∧
        (lx g i = 0 ∨ lx g i ≠ lx g j))) := by
    intro i j
    unfold CdKeys.apartFine
    rw [Bool.and_eq_true]
    refine and_congr ?_ ?_
    · rw [Bool.or_eq_true, Bool.not_eq_true', bne_iff_ne]
      show ((CdKeys.Keyboard.bank (keyboardOf l g a m b) i == CdKeys.Keyboard.bank (keyboardOf l g a m b) j || (CdKeys.Keyboard.bank (keyboardOf l g a m b) i == 1 || CdKeys.Keyboard.bank (keyboardOf l g a m b) j == 1)) = false ∨ _) ↔ _
      have bk : ∀ i, CdKeys.Keyboard.bank (keyboardOf l g a m b) i = (if i < a then 0 else if i < a + m then 1 else 2) := fun i => rfl
      rw [bk, bk]
      generalize (if i < a then 0 else if i < a + m then 1 else 2) = x
      generalize (if j < a then 0 else if j < a + m then 1 else 2) = y
      rw [Bool.or_eq_false_iff, Bool.or_eq_false_iff, beq_eq_false_iff_ne, beq_eq_false_iff_ne, beq_eq_false_iff_ne]
      constructor
      · rintro (⟨h1, h2, h3⟩ | h) (e | e | e)
        · exact absurd e h1
        · exact absurd e h2
        · exact absurd e h3
        all_goals exact h
      · intro h
        by_cases c : x = y ∨ x = 1 ∨ y = 1
        · exact Or.inr (h c)
        · exact Or.inl ⟨fun e => c (Or.inl e), fun e => c (Or.inr (Or.inl e)), fun e => c (Or.inr (Or.inr e))⟩
    · rw [Bool.or_eq_true, bne_iff_ne]
      by_cases g0 : lx g i = 0
      · simp only [g0, if_true, Option.isNone_none, true_or]
      · by_cases g1 : lx g j = 0
        · simp only [g0, g1, if_false, if_true, Option.isNone_some, false_or]
          simp
          exact g0
        · simp only [g0, g1, if_false, Option.isNone_some, false_or, Option.some.injEq, ne_eq]
          simp
  unfold CdKeys.Keyboard.ok
  rw [Bool.and_eq_true, Bool.and_eq_true, Bool.and_eq_true, Bool.and_eq_true, decide_eq_true_eq, decide_eq_true_eq, decide_eq_true_eq]
  rw [show (keyboardOf l g a m b).size = l.length from kb_size hl]
  refine and_congr Iff.rfl (and_congr Iff.rfl (and_congr Iff.rfl (and_congr ?_ ?_)))
  · show ((!(b == 1) || decide (0 < a)) = true) ↔ _
    rw [Bool.or_eq_true, Bool.not_eq_true', beq_eq_false_iff_ne, decide_eq_true_eq]
    omega
  · rw [List.all_eq_true]
    constructor
    · intro h
      have h1 : ∀ i, i < l.length → _ := fun i hi => h (⟨lx l i, if lx g i = 0 then none else some (lx g i)⟩, i) (List.mem_zipIdx_iff_getElem?.mpr (by show (keyboardOf l g a m b).keys[i]? = _; rw [kb_key hl, if_pos hi]))
      refine ⟨fun i hi => (fine i hi).mp ?_, fun i j hi hj hn => (apart i j).mp ?_⟩
      · have := h1 i hi
        rw [Bool.and_eq_true] at this
        exact this.1
      · have := h1 i hi
        rw [Bool.and_eq_true, List.all_eq_true] at this
        have t := this.2 (⟨lx l j, if lx g j = 0 then none else some (lx g j)⟩, j) (List.mem_zipIdx_iff_getElem?.mpr (by show (keyboardOf l g a m b).keys[j]? = _; rw [kb_key hl, if_pos hj]))
        rw [Bool.or_eq_true] at t
        rcases t with t | t
        · exact absurd (beq_iff_eq.mp t) hn
        · exact t
    · rintro ⟨h1, h2⟩ ⟨x, i⟩ hx
      rw [List.mem_zipIdx_iff_getElem?] at hx
      have hx' : (keyboardOf l g a m b).keys[i]? = some x := hx
      rw [kb_key hl] at hx'
      by_cases hi : i < l.length
      · rw [if_pos hi] at hx'
        cases hx'
        rw [Bool.and_eq_true]
        refine ⟨(fine i hi).mpr (h1 i hi), ?_⟩
        rw [List.all_eq_true]
        rintro ⟨y, j⟩ hy
        rw [List.mem_zipIdx_iff_getElem?] at hy
        have hy' : (keyboardOf l g a m b).keys[j]? = some y := hy
        rw [kb_key hl] at hy'
        by_cases hj : j < l.length
        · rw [if_pos hj] at hy'
          cases hy'
          rw [Bool.or_eq_true]
          by_cases hn : i = j
          · exact Or.inl (beq_iff_eq.mpr hn)
          · exact Or.inr ((apart i j).mpr (h2 i j hi hj hn))
        · rw [if_neg hj] at hy'
          cases hy'
      · rw [if_neg hi] at hx'
        cases hx'
theorem labelsFit_is (a m b : Nat) (l : List Nat) (hb : b ≤ 1) : labelsFit a m b l = true ↔ ((b = 1 → lx l 0 = 35) ∧ (∀ i, b ≤ i → i < l.length → isLab (lx l i) = true) ∧
    (∀ i, a ≤ i → i < a + m → i < l.length → (∀ j, j < a → j < l.length → lx l j ≠ lx l i) ∧ ∀ j, a + m ≤ j → j < l.length → lx l j ≠ lx l i) ∧
    (∀ i j, i < j → j < a → j < l.length → lx l i ≠ lx l j) ∧ (∀ i j, a ≤ i → i < j → j < a + m → j < l.length → lx l i ≠ lx l j) ∧ (∀ i j, a + m ≤ i → i < j → j < l.length → lx l i ≠ lx l j)) := by
  unfold labelsFit difN
  rw [Bool.and_eq_true, Bool.and_eq_true, Bool.and_eq_true, Bool.and_eq_true, Bool.and_eq_true, decide_eq_true_eq, decide_eq_true_eq, decide_eq_true_eq]
  have t0 : l.take a = (l.drop 0).take a := by rw [List.drop_zero]
  have n0 : (l.take a).Nodup ↔ ∀ i j, i < j → j < a → j < l.length → lx l i ≠ lx l j := by
    rw [t0, nodup_part]
    exact ⟨fun h i j h1 h2 h3 => h i j (by omega) h1 (by omega) h3, fun h i j _ h1 h2 h3 => h i j h1 (by omega) h3⟩
  have n2 : (l.drop (a + m)).Nodup ↔ ∀ i j, a + m ≤ i → i < j → j < l.length → lx l i ≠ lx l j := by
    rw [drop_part, nodup_part]
    exact ⟨fun h i j h1 h2 h3 => h i j h1 h2 (by omega) h3, fun h i j h1 h2 _ h3 => h i j h1 h2 h3⟩
  have m0 : ∀ x, x ∈ l.take a ↔ ∃ i, i < a ∧ i < l.length ∧ lx l i = x := by
    intro x
    rw [t0, mem_part]
    exact ⟨fun ⟨i, _, h1, h2, h3⟩ => ⟨i, by omega, h2, h3⟩, fun ⟨i, h1, h2, h3⟩ => ⟨i, by omega, by omega, h2, h3⟩⟩
  have m2 : ∀ x, x ∈ l.drop (a + m) ↔ ∃ i, a + m ≤ i ∧ i < l.length ∧ lx l i = x := by
    intro x
    rw [drop_part, mem_part]
    exact ⟨fun ⟨i, h0, h1, h2, h3⟩ => ⟨i, h0, h2, h3⟩, fun ⟨i, h1, h2, h3⟩ => ⟨i, h1, by omega, h2, h3⟩⟩
  have md : ∀ x, x ∈ l.drop b ↔ ∃ i, b ≤ i ∧ i < l.length ∧ lx l i = x := by
    intro x
    rw [drop_part, mem_part]
    exact ⟨fun ⟨i, h0, h1, h2, h3⟩ => ⟨i, h0, h2, h3⟩, fun ⟨i, h1, h2, h3⟩ => ⟨i, h1, by omega, h2, h3⟩⟩
  refine and_congr ?_ (and_congr ?_ (and_congr ?_ (and_congr n0 (and_congr (nodup_part a m) n2))))
  · rw [Bool.not_eq_true', Bool.and_eq_false_iff, bne_eq_false_iff_eq, Bool.not_eq_false', decide_eq_true_eq]
    show (b = 0 ∨ lx l 0 = 35) ↔ _
    omega
  · rw [List.all_eq_true]
    exact ⟨fun h i h1 h2 => h _ ((md _).mpr ⟨i, h1, h2, rfl⟩), fun h x hx => by obtain ⟨i, h1, h2, rfl⟩ := (md _).mp hx; exact h i h1 h2⟩
  · rw [Bool.not_eq_true', List.any_eq_false]
    constructor
    · intro h i h1 h2 h3
      have := h (lx l i) ((mem_part a m).mpr ⟨i, h1, h2, h3, rfl⟩)
      rw [Bool.or_eq_true, decide_eq_true_eq, decide_eq_true_eq, m0, m2] at this
      exact ⟨fun j j1 j2 e => this (Or.inl ⟨j, j1, j2, e⟩), fun j j1 j2 e => this (Or.inr ⟨j, j1, j2, e⟩)⟩
    · intro h x hx
      obtain ⟨i, h1, h2, h3, rfl⟩ := (mem_part a m).mp hx
      rw [Bool.or_eq_true, decide_eq_true_eq, decide_eq_true_eq, m0, m2]
      obtain ⟨p, q⟩ := h i h1 h2 h3
      rintro (⟨j, j1, j2, e⟩ | ⟨j, j1, j2, e⟩)
      · exact p j j1 j2 e
      · exact q j j1 j2 e
theorem digitsFit_is (b : Nat) (g : List Nat) (hb : b ≤ 1) (hg : 1 ≤ g.length) : digitsFit b g = true ↔ ((b = 0 → ∀ i, i < g.length → lx g i = 0) ∧ (b = 1 → lx g 0 = 0 ∧ (∀ i, i < g.length → lx g i = 0 ∨ isDig (lx g i) = true) ∧ ∀ i j, i < j → j < g.length → lx g i = 0 ∨ lx g j = 0 ∨ lx g i ≠ lx g j)) := by
  unfold digitsFit
  by_cases b0 : b = 0
  · rw [if_pos b0, List.isEmpty_iff, List.filter_eq_nil_iff]
    constructor
    · intro h
      refine ⟨fun _ i hi => ?_, fun e => by omega⟩
      have := h (lx g i) (List.mem_iff_getElem.mpr ⟨i, hi, lx_get hi⟩)
      rwa [Bool.not_eq_true', decide_eq_false_iff_not, Decidable.not_not] at this
    · intro h x hx
      obtain ⟨i, hi, rfl⟩ := List.mem_iff_getElem.mp hx
      rw [lx_get hi, h.1 b0 i hi]
      simp
  · rw [if_neg b0, Bool.and_eq_true, Bool.and_eq_true, decide_eq_true_eq]
    have b1 : b = 1 := by omega
    unfold difN
    rw [decide_eq_true_eq, List.nodup_iff_pairwise_ne, List.pairwise_filter, List.pairwise_iff_getElem, List.all_filter, List.all_eq_true]
    constructor
    · rintro ⟨h0, h1, h2⟩
      refine ⟨fun e => absurd e b0, fun _ => ⟨h0, fun i hi => ?_, fun i j hi hj => ?_⟩⟩
      · have := h1 (lx g i) (List.mem_iff_getElem.mpr ⟨i, hi, lx_get hi⟩)
        rw [Bool.or_eq_true, Bool.not_not, decide_eq_true_eq] at this
        exact this
      · have := h2 i j (by omega) hj hi
        rw [lx_get, lx_get, Bool.not_eq_true', Bool.not_eq_true', decide_eq_false_iff_not, decide_eq_false_iff_not] at this
        by_cases c : lx g i = 0
        · exact Or.inl c
        · by_cases d : lx g j = 0
          · exact Or.inr (Or.inl d)
          · exact Or.inr (Or.inr (this c d))
    · intro h
      obtain ⟨h0, h1, h2⟩ := h.2 b1
      refine ⟨h0, fun x hx => ?_, fun i j hi hj hij => ?_⟩
      · obtain ⟨i, hi, rfl⟩ := List.mem_iff_getElem.mp hx
        rw [lx_get hi, Bool.or_eq_true, Bool.not_not, decide_eq_true_eq]
        exact h1 i hi
      · rw [lx_get, lx_get, Bool.not_eq_true', Bool.not_eq_true', decide_eq_false_iff_not, decide_eq_false_iff_not]
        intro p q
        rcases h2 i j hij hj with c | c | c
        · exact absurd c p
        · exact absurd c q
        · exact c
/-- **A keyboard to the program is a keyboard to the document.** -/
theorem isKb_is (a m b : Nat) (l g : List Nat) : isKb a m b l g = true ↔ (l.length = g.length ∧ b ≤ 1 ∧ (keyboardOf l g a m b).ok = true) := by
  unfold isKb
  rw [Bool.and_eq_true, Bool.and_eq_true, Bool.and_eq_true, Bool.and_eq_true]
  simp only [Bool.not_eq_true', Bool.or_eq_false_iff, Bool.not_eq_false', Bool.and_eq_false_iff, Bool.and_eq_true, decide_eq_true_eq, decide_eq_false_iff_not, bne_eq_false_iff_eq]
  constructor
  · rintro ⟨⟨hl, hb⟩, ⟨⟨n1, n2⟩, n3⟩, ha, hL, hD⟩
    have hb1 : b ≤ 1 := by omega
    refine ⟨hl, hb1, (kb_okp hl hb1).mpr ⟨n1, n2, by omega, fun e => by omega, ?_⟩⟩
    obtain ⟨l0, l1, l2, l3, l4, l5⟩ := (labelsFit_is a m b l hb1).mp hL
    obtain ⟨d0, d1⟩ := (digitsFit_is b g hb1 (by omega)).mp hD
    refine ⟨fun i hi => ⟨?_, ?_⟩, fun i j hi hj hij => ⟨fun hbk => ?_, ?_⟩⟩
    · by_cases c : b = 1 ∧ i = 0
      · rw [if_pos c]
        obtain ⟨c1, rfl⟩ := c
        exact ⟨l0 c1, (d1 c1).1⟩
      · rw [if_neg c]
        exact l1 i (by omega) hi
    · by_cases c : b = 0
      · exact Or.inl (d0 c i (by omega))
      · have c1 : b = 1 := by omega
        rcases (d1 c1).2.1 i (by omega) with h | h
        · exact Or.inl h
        · exact Or.inr ⟨c1, h⟩
    · have key : ∀ i j, i < l.length → j < l.length → i < j → ((if i < a then 0 else if i < a + m then 1 else 2) = (if j < a then 0 else if j < a + m then 1 else 2) ∨ (if i < a then 0 else if i < a + m then 1 else 2) = 1 ∨ (if j < a then 0 else if j < a + m then 1 else 2) = 1) → lx l i ≠ lx l j := by
        intro i j hi hj hij hbk
        by_cases i0 : i < a
        · by_cases j0 : j < a
          · exact l3 i j hij j0 hj
          · by_cases j1 : j < a + m
            · exact (l2 j (by omega) j1 hj).1 i i0 hi
            · rw [if_pos i0, if_neg j0, if_neg j1] at hbk
              omega
        · have j0 : ¬ j < a := by omega
          by_cases i1 : i < a + m
          · by_cases j1 : j < a + m
            · exact l4 i j (by omega) hij j1 hj
            · exact fun e => (l2 i (by omega) i1 hi).2 j (by omega) hj e.symm
          · exact l5 i j (by omega) hij hj
      rcases Nat.lt_or_gt_of_ne hij with h | h
      · exact key i j hi hj h hbk
      · refine fun e => key j i hj hi h ?_ e.symm
        rcases hbk with h | h | h
        · exact Or.inl h.symm
        · exact Or.inr (Or.inr h)
        · exact Or.inr (Or.inl h)
    · by_cases c : b = 0
      · exact Or.inl (d0 c i (by omega))
      · have c1 : b = 1 := by omega
        by_cases z : lx g i = 0
        · exact Or.inl z
        · right
          rcases Nat.lt_or_gt_of_ne hij with h | h
          · rcases (d1 c1).2.2 i j h (by omega) with q | q | q
            · exact absurd q z
            · rw [q]
              exact z
            · exact q
          · rcases (d1 c1).2.2 j i h (by omega) with q | q | q
            · rw [q]
              exact z
            · exact absurd q z
            · exact fun e => q e.symm
  · rintro ⟨hl, hb1, hk⟩
    obtain ⟨n1, n2, n3, n4, hf, hp⟩ := (kb_okp hl hb1).mp hk
    have i0s : ∀ i, i < a → (if i < a then 0 else if i < a + m then 1 else 2) = 0 := fun i h => if_pos h
    have i1s : ∀ i, a ≤ i → i < a + m → (if i < a then 0 else if i < a + m then 1 else 2) = 1 := fun i h1 h2 => by rw [if_neg (by omega), if_pos h2]
    have i2s : ∀ i, a + m ≤ i → (if i < a then 0 else if i < a + m then 1 else 2) = 2 := fun i h1 => by rw [if_neg (by omega), if_neg (by omega)]
    refine ⟨⟨hl, by omega⟩, ⟨⟨n1, n2⟩, by omega⟩, ?_, (labelsFit_is a m b l hb1).mpr ⟨?_, ?_, ?_, ?_, ?_, ?_⟩, (digitsFit_is b g hb1 (by omega)).mpr ⟨?_, ?_⟩⟩
    · by_cases c : b = 0
      · exact Or.inl c
      · have := n4 (by omega)
        exact Or.inr (by omega)
    · intro e
      have := (hf 0 (by omega)).1
      rw [if_pos ⟨e, rfl⟩] at this
      exact this.1
    · intro i h1 h2
      have := (hf i h2).1
      rw [if_neg (by omega)] at this
      exact this
    · intro i h1 h2 h3
      exact ⟨fun j j1 j2 => (hp j i j2 h3 (by omega)).1 (Or.inr (Or.inr (i1s i h1 h2))), fun j j1 j2 => (hp j i j2 h3 (by omega)).1 (Or.inr (Or.inr (i1s i h1 h2)))⟩
    · intro i j h1 h2 h3
      exact (hp i j (by omega) h3 (by omega)).1 (Or.inl (by rw [i0s i (by omega), i0s j h2]))
    · intro i j h0 h1 h2 h3
      exact (hp i j (by omega) h3 (by omega)).1 (Or.inl (by rw [i1s i h0 (by omega), i1s j (by omega) h2]))
    · intro i j h0 h1 h3
      exact (hp i j (by omega) h3 (by omega)).1 (Or.inl (by rw [i2s i h0, i2s j (by omega)]))
    · intro e i hi
      rcases (hf i (by omega)).2 with h | h
      · exact h
      · omega
    · intro e
      refine ⟨?_, fun i hi => ?_, fun i j hij hj => ?_⟩
      · have := (hf 0 (by omega)).1
        rw [if_pos ⟨e, rfl⟩] at this
        exact this.2
      · rcases (hf i (by omega)).2 with h | h
        · exact Or.inl h
        · exact Or.inr h.2
      · rcases (hp i j (by omega) (by omega) (by omega)).2 with h | h
        · exact Or.inl h
        · exact Or.inr (Or.inr h)
end Kx

-- KEvents
/-! in_order, merged, merge; rules that the lines want too. -/
namespace Kx
open PySem PySem.Spec PyProof.Rows L2 Evl KeysCalls

section
variable {K : PySem.W.Frag} {σ : L2.St} {H : Hp} {ta tb tv : TE} {tt : TT} {xs ys : List V} {a b C dx : Addr} {fs : List (Str × V)} {f : Str} {n m : Nat} {D : Ends} {tz : TS}
/-- one that stands and a new one -/
theorem el_catV (ha : Ev ta σ H (.ref b)) (hB : H b = some (.lst xs)) (hb : EvL tb σ H ys) (hl : xs.length + ys.length ≤ 100000) : EvL (tOp rCat ta tb) σ H (xs ++ ys) := fun H7 e7 Q q =>
  ha H7 e7 _ fun H8 e8 => hb H8 (e7.trans e8) _ fun y H9 hy e9 h9 => ⟨b, y, xs, ys, rfl, rfl, ((e7.trans e8).trans e9) _ _ hB, h9, sz_of hl, fun l hn => q l _ (fresh_back (e8.trans e9) hn) ((e8.trans e9).trans (Evl.Ex.new hn)) upd_same⟩
theorem el_if {c : Bool} (h : EvT tt σ H c) (h1 : c = true → EvL ta σ H xs) (h2 : c = false → EvL tb σ H xs) : EvL (tIf tt ta tb) σ H xs := fun H1 e Q q => h H1 e _ fun H2 e2 => by
  cases c with
  | true =>
    show ta σ H2 Q
    exact h1 rfl H2 (e.trans e2) Q fun p H3 hp e3 h3 => q p H3 (fresh_back e2 hp) (e2.trans e3) h3
  | false =>
    show tb σ H2 Q
    exact h2 rfl H2 (e.trans e2) Q fun p H3 hp e3 h3 => q p H3 (fresh_back e2 hp) (e2.trans e3) h3
theorem q_fldaug (ha : Ev ta σ H (.ref a)) (hv : Ev tv σ H (vn m)) (ho : H a = some (.ins C dx fs)) (hc : Cls K C) (hn : NoAttr K C f) (hf : fs.lookup f = some (vn n)) (hl : fs.length < 1000) (k : ∀ H1, Evl.Ex H H1 → tz D σ (upd H1 a (.ins C dx (putF f (vn (n + m)) fs)))) :
    tSeq (sFldAug K ta tv rAdd f) tz D σ H := ha H (Evl.Ex.refl H) _ fun H1 e1 => ⟨a, C, dx, fs, vn n, rfl, e1 _ _ ho, hc, hn, hf, hv H1 e1 _ fun H2 e2 => ⟨n, m, rfl, rfl, dx, fs, (e1.trans e2) _ _ ho, hl, k H2 (e1.trans e2)⟩⟩
end
theorem rv_isN : RV (fun x y H Q => y = .non ∧ Q (.bl (decide (x = V.non))) H) x .non H (.bl (decide (x = .non))) := fun H1 _ _ q => ⟨rfl, q H1 (Evl.Ex.refl H1)⟩
abbrev rMulR : R2 := rN (fun _ m => m ≤ 4294967296) fun n m => vn (n * m)
theorem on_mulR {X : Cx} : OpR X (binaryOp .Mult) rMulR := opN_of op_mul fun n m H Q c q => ⟨n, m, rfl, rfl, Or.inr ⟨by omega, by
  show (m : Int) < 2 ^ 64
  omega⟩, q⟩
section
variable {P : Program} {w : World} {K : PySem.W.Frag} {mg : Str → Option Value} {base : Heap} {CBoard CNumberedLine CStrokes CNews CPart CPlainLine CHall : Addr}
/-! ### in_order -/
def spInOrder (K : PySem.W.Frag) : Sp := spV fun vs H v => ∃ (a : Addr) (ns : List Nat) (earliest : Nat), vs = [.ref a, vn earliest] ∧ SqL K H a (vns ns) ∧ ns.length ≤ 80000 ∧ v = .bl (inOrd ns earliest)
theorem scInOrder : FnScope ["events", "earliest", "last", "place"] ["events", "earliest"] (defScope tInOrder) := ⟨rfl, rfl, rfl, by decide +kernel, rfl, by decide +kernel, by decide +kernel⟩
theorem ordN_at {ns : List Nat} {last i t k : Nat} (h0 : ns[2 * i]? = some t) (h1 : ns[2 * i + 1]? = some k) : ordN last (ns.drop (2 * i)) = if t < last then false else ordN t (ns.drop (2 * (i + 1))) := by
  have d0 : ns.drop (2 * i) = t :: k :: ns.drop (2 * (i + 1)) := by
    obtain ⟨l0, e0⟩ := List.getElem?_eq_some_iff.mp h0
    obtain ⟨l1, e1⟩ := List.getElem?_eq_some_iff.mp h1
    rw [List.drop_eq_getElem_cons l0, List.drop_eq_getElem_cons l1, e0, e1, show 2 * i + 1 + 1 = 2 * (i + 1) by omega]
  rw [d0]
  rfl
theorem ok_in_order {f : Addr} {fd : FuncData} (D : Raw K mg "in_order" tInOrder f fd) (T : Tx K mg CBoard CNumberedLine CStrokes CNews CPart CPlainLine CHall) : Ok P w K mg base 1 "in_order" ["events", "earliest"] (spInOrder K) f fd := by
  refine ⟨D.fn.ok scInOrder (fun vs H Q E h => ?_) (fun cdv A outer s H vs Q E hr h => ⟨_,
    (pss_cons (ps_if (pt_cmpR on_eq (pe_op on_mod (pe_callB call_len_seq (by rfl) T.b_len PySem.boot_len (pa_cons (pv 0) pa_nil)) pe_n) pe_n (nomark _)) (pss_one (ps_ret pe_bl)) pss_nil)
      (pss_cons (ps_set (i := 2) scInOrder.nd rfl (Or.inl rfl) (pv 1))
      (pss_cons (ps_for PassesOwn.never rfl (pi_range3 (by rfl) T.b_range (pa_cons pe_n (pa_cons (pe_callB call_len_seq (by rfl) T.b_len PySem.boot_len (pa_cons (pv 0) pa_nil)) (pa_cons pe_n pa_nil)))) (pg_name (i := 3) scInOrder.nd rfl (Or.inl rfl)) (pss_cons (ps_if (pt_cmpR on_lt (pe_ix ix_list (pv 0) (pv 3) (fun _ _ => rfl)) (pv 2) (nomark _)) (pss_one (ps_ret pe_bl)) pss_nil)
      (pss_one (ps_set (i := 2) scInOrder.nd rfl (Or.inl rfl) (pe_ix ix_list (pv 0) (pv 3) (fun _ _ => rfl))))))
      (pss_one (ps_ret pe_bl))))), ?_⟩), D.at_, D.fn.kp, D.fn.binds fun _ _ _ _ _ _ us hl => match us, hl with | [_, _], _ => rfl⟩
  · obtain ⟨v, ⟨a, ns, earliest, rfl, _⟩, _⟩ := h
    rfl
  · obtain ⟨v, ⟨a, ns, earliest, rfl, hS, hl, rfl⟩, kQ⟩ := h
    refine q_when (etN (g := fun n m => decide (n = m)) (n := ns.length % 2) (m := 1) (evN (n := ns.length) (m := 2) (ev_lenN' (ev_var rfl) hS) ev_n (by show 1 ≤ 2; decide)) ev_n trivial) (fun b1 H1 e1 => s_ret ev_c fun H2 e2 => ?_) (fun b1 H1 e1 => ?_)
    · have : inOrd ns earliest = false := if_pos (of_decide_eq_true b1)
      rw [this] at kQ
      exact kQ H2 (e1.trans e2)
    have b1a : ¬ ns.length % 2 = 1 := of_decide_eq_false b1
    have hE : inOrd ns earliest = ordN earliest ns := if_neg b1a
    obtain ⟨n, hn⟩ : ∃ n, ns.length = 2 * n := ⟨ns.length / 2, by omega⟩
    refine q_asg (ev_var rfl) fun H2 e2 => ?_
    refine q_forC2 (n := n) (j := 3) (ea_cons ev_n (ea_cons (ev_is (ev_lenN' (ev_var rfl) (ex_l (e1.trans e2) hS)) (by rw [hn])) (ea_cons ev_n ea_nil))) (by omega)
      (fun i σ' H' => ∃ (last : Nat) (v3 : Option V), σ' = [some (.ref a), some (vn earliest), some (vn last), v3] ∧ Evl.Ex H H' ∧ inOrd ns earliest = ordN last (ns.drop (2 * i)))
      (fun H3 e3 => ⟨earliest, none, rfl, (e1.trans e2).trans e3, by rw [hE]; rfl⟩) (fun i σ' H' hi => ?_) (fun σ' H' => ?_)
    · rintro ⟨last, v3, rfl, e4, hv⟩
      have g0 : ns[2 * i]? = some (lx ns (2 * i)) := by rw [List.getElem?_eq_getElem (by omega), lx_get]
      have g1 : ns[2 * i + 1]? = some (lx ns (2 * i + 1)) := by rw [List.getElem?_eq_getElem (by omega), lx_get]
      rw [ordN_at g0 g1] at hv
      refine q_when (etN (g := fun n m => decide (n < m)) (n := lx ns (2 * i)) (m := last) (ev_ixN (ev_var rfl) (ev_var rfl) (ex_l e4 hS) g0) (ev_var rfl) trivial) (fun b2 H6 e6 => s_ret ev_c fun H7 e7 => ?_) (fun b2 H6 e6 => ?_)
      · rw [if_pos (of_decide_eq_true b2)] at hv
        rw [hv] at kQ
        exact kQ H7 ((e4.trans e6).trans e7)
      · rw [if_neg (of_decide_eq_false b2)] at hv
        exact s_asg (ev_ixN (ev_var rfl) (ev_var rfl) (ex_l (e4.trans e6) hS) g0) fun H7 e7 => ⟨_, _, rfl, (e4.trans e6).trans e7, hv⟩
    · rintro ⟨last, v3, rfl, e4, hv⟩
      rw [← hn, List.drop_length] at hv
      refine s_ret ev_c fun H5 e5 => ?_
      have : inOrd ns earliest = true := hv
      rw [this] at kQ
      exact kQ H5 (e4.trans e5)

/-! ### merged -/
def spMerged (K : PySem.W.Frag) : Sp := spL fun vs H xs => ∃ (a b : Addr) (x y : List CdKeys.Event), vs = [.ref a, .ref b] ∧ SqL K H a (vns (evNs x)) ∧ SqL K H b (vns (evNs y)) ∧ (evNs x).length ≤ 19000 ∧ (evNs y).length ≤ 19000 ∧ xs = vns (evNs (CdKeys.merged x y))
theorem scMerged : FnScope ["first", "second", "both", "place", "other"] ["first", "second"] (defScope tMerged) := ⟨rfl, rfl, rfl, by decide +kernel, rfl, by decide +kernel, by decide +kernel⟩
theorem ok_merged {f : Addr} {fd : FuncData} (D : Raw K mg "merged" tMerged f fd) (T : Tx K mg CBoard CNumberedLine CStrokes CNews CPart CPlainLine CHall) : Ok P w K mg base 1 "merged" ["first", "second"] (spMerged K) f fd := by
  refine ⟨D.fn.ok scMerged (fun vs H Q E h => ?_) (fun cdv A outer s H vs Q E hr h => ⟨_,
    (pss_cons (ps_set (i := 2) scMerged.nd rfl (Or.inl rfl) (pe_lst pa_nil))
      (pss_cons (ps_set (i := 3) scMerged.nd rfl (Or.inl rfl) pe_n)
      (pss_cons (ps_for PassesOwn.never rfl (pi_range3 (by rfl) T.b_range (pa_cons pe_n (pa_cons (pe_callB call_len_seq (by rfl) T.b_len PySem.boot_len (pa_cons (pv 1) pa_nil)) (pa_cons pe_n pa_nil)))) (pg_name (i := 4) scMerged.nd rfl (Or.inl rfl)) (pss_cons (ps_while PassesOwn.never (PW.pt (pw_and (pt_cmpR on_lt (pv 3) (pe_callB call_len_seq (by rfl) T.b_len PySem.boot_len (pa_cons (pv 0) pa_nil)) (nomark _)) (pw_and1 (pt_cmpR on_le (pe_ix ix_list (pv 0) (pv 3) (fun _ _ => rfl)) (pe_ix ix_list (pv 1) (pv 4) (fun _ _ => rfl)) (nomark _))))) (pss_cons (ps_expr (pe_bm PySem.F.plainAttrs_list PySem.F.slot_list_extend PySem.F.type_list_extend mt_extend (pv 2) (pa_cons (pe_slice sl_list (pv 0) (po_some (pv 3)) (po_some (pe_op on_add (pv 3) pe_n))) pa_nil)))
      (pss_one (ps_aug (i := 3) scMerged.nd rfl (Or.inl rfl) pe_n ip_add))))
      (pss_one (ps_expr (pe_bm PySem.F.plainAttrs_list PySem.F.slot_list_extend PySem.F.type_list_extend mt_extend (pv 2) (pa_cons (pe_slice sl_list (pv 1) (po_some (pv 4)) (po_some (pe_op on_add (pv 4) pe_n))) pa_nil))))))
      (pss_one (ps_ret (pe_op op_cat (pv 2) (pe_slice sl_list (pv 0) (po_some (pv 3)) po_none))))))), ?_⟩), D.at_, D.fn.kp, D.fn.binds fun _ _ _ _ _ _ us hl => match us, hl with | [_, _], _ => rfl⟩
  · obtain ⟨v, ⟨a, b, x, y, rfl, _⟩, _⟩ := h
    rfl
  · obtain ⟨v, ⟨a, b, x, y, rfl, hA, hB, la, lb, rfl⟩, kQ⟩ := h
    have lx2 := evNs_length x
    have ly2 := evNs_length y
    refine q_asgL (el_lst ea_nil few) fun c H1 hc e1 h1 => ?_
    refine q_asg ev_n fun H2 e2 => ?_
    refine q_forC2 (n := y.length) (j := 4) (ea_cons ev_n (ea_cons (ev_is (ev_lenN' (ev_var rfl) (ex_l (e1.trans e2) hB)) (by rw [ly2])) (ea_cons ev_n ea_nil))) (by omega)
      (fun i σ' H' => ∃ (B : List Nat) (p : Nat) (v4 : Option V), σ' = [some (.ref a), some (.ref b), some (.ref c), some (vn (2 * p)), v4] ∧ Evl.Ex H H' ∧ H' c = some (.lst (vns B)) ∧ p ≤ x.length ∧ B.length = 2 * (p + i) ∧ B ++ evNs (CdKeys.merged (x.drop p) (y.drop i)) = evNs (CdKeys.merged x y))
      (fun H3 e3 => ⟨[], 0, none, rfl, (e1.trans e2).trans e3, (e2.trans e3) _ _ h1, Nat.zero_le _, rfl, rfl⟩) (fun i σ' H' hi => ?_) (fun σ' H' => ?_)
    · rintro ⟨B, p, v4, rfl, eH, hC, hp, hBl, hM⟩
      have hg : y[i]? = some y[i] := List.getElem?_eq_getElem hi
      generalize y[i] = g at hg
      have gat := evNs_at hg
      refine q_while (fun z σ' H' => ∃ (B : List Nat) (p : Nat), σ' = [some (.ref a), some (.ref b), some (.ref c), some (vn (2 * p)), some (vn (2 * i))] ∧ Evl.Ex H H' ∧ H' c = some (.lst (vns B)) ∧ p ≤ x.length ∧ B.length = 2 * (p + i) ∧ B ++ evNs (CdKeys.merged (x.drop p) (y.drop i)) = evNs (CdKeys.merged x y) ∧ z = x.length - p) (x.length - p)
        ⟨B, p, rfl, eH, hC, hp, hBl, hM, rfl⟩ ?_
      rintro z σ' H' ⟨B, p, rfl, eH, hC, hp, hBl, hM, rfl⟩
      refine ⟨decide (2 * p < (evNs x).length) && (decide (((evNs x)[2 * p]?).getD 0 ≤ g.tick)), et_and (etN (g := fun n m => decide (n < m)) (n := 2 * p) (m := (evNs x).length) (ev_var rfl) (ev_lenN' (ev_var rfl) (ex_l eH hA)) trivial) fun hb => ?_, fun hb H5 e5 => ?_, fun hb H5 e5 => ?_⟩
      · have lt : p < x.length := by
          have := of_decide_eq_true hb
          omega
        have he : x[p]? = some x[p] := List.getElem?_eq_getElem lt
        have eat := evNs_at he
        rw [eat]
        exact etN (g := fun n m => decide (n ≤ m)) (n := x[p].tick) (m := g.tick) (ev_ixN (ev_var rfl) (ev_var rfl) (ex_l eH hA) eat) (ev_ixN (ev_var rfl) (ev_var rfl) (ex_l eH hB) gat) trivial
      · rw [Bool.and_eq_true, decide_eq_true_eq, decide_eq_true_eq] at hb
        have lt : p < x.length := by
          have := hb.1
          omega
        have he : x[p]? = some x[p] := List.getElem?_eq_getElem lt
        generalize x[p] = e at he
        have eat := evNs_at he
        rw [eat] at hb
        have step := merged_fst' he hg hb.2
        refine ⟨_, fun σ2 H2 h => h, ?_⟩
        refine q_extL (e5 _ _ hC) (ev_var rfl) (el_part (ev_var rfl) (ev_var rfl) (evN (n := 2 * p) (m := 2) (ev_var rfl) ev_n trivial) (ex_l (eH.trans e5) hA)) (by
          rw [vns_length, vns_length, List.length_take]
          omega) fun H6 e6 => ?_
        refine s_augN (n := 2 * p) (m := 2) rfl ev_n fun H7 e7 => ?_
        refine ⟨x.length - (p + 1), by omega, B ++ eventNums e, p + 1, ?_, ?_, ?_, lt, ?_, ?_, rfl⟩
        · rw [show 2 * p + 2 = 2 * (p + 1) by omega]
          rfl
        · exact (((eH.trans e5).trans e6).mut hc).trans e7
        · refine (e7 _ _ upd_same).trans ?_
          rw [show 2 * p + 2 - 2 * p = 2 by omega, evNs_pair he, ← vns_append]
        · rw [List.length_append, hBl]
          show _ + 2 = _
          omega
        · rw [← hM, step, List.append_assoc]
          rfl
      · refine s_extL (e5 _ _ hC) (ev_var rfl) (el_part (ev_var rfl) (ev_var rfl) (evN (n := 2 * i) (m := 2) (ev_var rfl) ev_n trivial) (ex_l (eH.trans e5) hB)) (by
          rw [vns_length, vns_length, List.length_take]
          omega) fun H6 e6 => ?_
        have step : CdKeys.merged (x.drop p) (y.drop i) = g :: CdKeys.merged (x.drop p) (y.drop (i + 1)) := by
          refine merged_snd' hg fun e he hle => ?_
          by_cases lt : p < x.length
          · have hx : x[p]? = some x[p] := List.getElem?_eq_getElem lt
            rw [List.drop_eq_getElem_cons lt] at he
            have ee : x[p] = e := Option.some.inj he
            rw [ee] at hx
            rw [evNs_at hx, decide_eq_true (show 2 * p < (evNs x).length by omega)] at hb
            have hb' : (true && decide (e.tick ≤ g.tick)) = false := hb
            rw [decide_eq_true hle] at hb'
            cases hb'
          · rw [List.drop_eq_nil_of_le (by omega)] at he
            cases he
        refine ⟨B ++ eventNums g, p, _, rfl, ((eH.trans e5).trans e6).mut hc, ?_, hp, ?_, ?_⟩
        · refine upd_same.trans ?_
          rw [show 2 * i + 2 - 2 * i = 2 by omega, evNs_pair hg, ← vns_append]
        · rw [List.length_append, hBl]
          show _ + 2 = _
          omega
        · rw [← hM, step, List.append_assoc]
          rfl
    · rintro ⟨B, p, v4, rfl, eH, hC, hp, hBl, hM⟩
      rw [List.drop_length, merged_end] at hM
      have lm : B.length + (evNs (x.drop p)).length ≤ 38000 := by
        rw [hBl, evNs_length, List.length_drop]
        omega
      refine s_retL (el_catV (ev_var rfl) hC (el_from (ev_var rfl) (ev_var rfl) (ex_l eH hA)) (by
        rw [vns_length, vns_length, evNs_drop]
        omega)) fun r H5 hr e5 h5 => ?_
      refine kQ r H5 (fresh_back eH hr) (eH.trans e5) ?_
      rw [← hM, vns_append, ← evNs_drop]
      exact h5

end
end Kx

-- KBodies
/-! Bodies of frames: the check, ticks, chords; a body judged. -/
namespace Kx
open PySem PySem.Spec PyProof.Rows L2 Evl

/-- a def of the text whose global name is another than its own -/
structure RawA (K : PySem.W.Frag) (mg : Str → Option Value) (x q : Str) (st : Stmt) (f : Addr) (fd : FuncData) : Prop where
  fn : Fun K q q st f fd
  at_ : mg x = some (.ref f)
/-! ### rules -/
theorem eqv_ints : ∀ x y : List Nat, PyData.eqvAll (dInts x) (dInts y) = decide (x = y)
  | [], [] => rfl
  | [], y :: t => rfl
  | x :: r, [] => rfl
  | x :: r, y :: t => by
    have ih := eqv_ints r t
    show (PyData.eqv (.int (x : Int)) (.int (y : Int)) && PyData.eqvAll (dInts r) (dInts t)) = _
    rw [ih]
    have e : PyData.eqv (.int (x : Int)) (.int (y : Int)) = decide (x = y) := by
      rw [PyData.eqv]
      by_cases h : x = y
      · subst h
        simp
      · have : ¬ (x : Int) = (y : Int) := by omega
        simp [this, h]
    rw [e]
    by_cases h1 : x = y
    · by_cases h2 : r = t
      · rw [h1, h2]
        simp
      · rw [decide_eq_false h2, Bool.and_false]
        refine (decide_eq_false fun z => h2 ?_).symm
        injection z
    · rw [decide_eq_false h1, Bool.false_and]
      refine (decide_eq_false fun z => h1 ?_).symm
      injection z
section
variable {K : PySem.W.Frag} {σ : L2.St} {H : Hp} {ta tb te : TE} {a : Addr} {x y : List Nat} {xs ys : List V} {v : V} {sp : Sp} {E : XK}
theorem rv_neN {p q : Addr} {H1 : Hp} (hp : SqL K H1 p (vns x)) (hq : SqL K H1 q (vns y)) : RV (rNeD K) (.ref p) (.ref q) H1 (.bl (!decide (x = y))) := rv_val fun H2 e2 Q k =>
  ⟨.list (dInts x), .list (dInts y), .lst (ex_l e2 hp) (dpAll_vns _), .lst (ex_l e2 hq) (dpAll_vns _), shaped_ints _, shaped_ints _, by
    have r : PyData.eqv (.list (dInts x)) (.list (dInts y)) = decide (x = y) := by
      rw [PyData.eqv]
      exact eqv_ints x y
    rw [r]
    exact k⟩
theorem ev_callL1 (h : EvL te σ H xs) (hs : ∀ p H1, Evl.Ex H H1 → H1 p = some (.lst xs) → SpV sp [.ref p] H1 v) : Ev (tCall sp [] E (tCons te tNil)) σ H v := fun H1 e Q q =>
  h H1 e _ fun p H2 _ e2 h2 => hs p H2 (e.trans e2) h2 H2 (Evl.Ex.refl _) Q (fun H3 e3 => q H3 (e2.trans e3)) E
theorem el_callN1 (h : EvL te σ H xs) (hs : ∀ p H1, Evl.Ex H H1 → H1 p = some (.lst xs) → SpL sp [.ref p] H1 ys) : EvL (tCall sp [] E (tCons te tNil)) σ H ys := fun H1 e Q q =>
  h H1 e _ fun p H2 hp e2 h2 => hs p H2 (e.trans e2) h2 H2 (Evl.Ex.refl _) Q (fun r H3 hr e3 h3 => q r H3 (fresh_back e2 hr) (e2.trans e3) h3) E
/-- a number made by a walk from the end -/
theorem q_revN {D : Ends} {tz : TS} {l : List Nat} {z : Nat} {g : Nat → Nat → Nat} (hx : SqL K H a (vns l)) (he : ∀ (x acc : Nat) H', x ∈ l → Ev te [some (.ref a), some (vn acc), some (vn x)] H' (vn (g x acc))) (k : ∀ v2 H1, Evl.Ex H H1 → tz D [some (.ref a), some (vn (l.foldr g z)), v2] H1) :
    tSeq (tFor (iRev K (tCons (tVar 0) tNil)) (gName 2) (tAsg te (gName 1))) tz D [some (.ref a), some (vn z), none] H := by
  refine (ev_var (i := 0) (v := .ref a) rfl) H (Evl.Ex.refl _) _ fun H3 e3 => ?_
  refine ⟨a, vns l, rfl, ex_l e3 hx, ?_⟩
  refine for_it walk_rev (fun i σ H' => ∃ v2 : Option V, σ = [some (.ref a), some (vn ((l.drop (l.length - i)).foldr g z)), v2] ∧ Evl.Ex H H') ?_ ?_ ?_ ?_
  · refine ⟨none, ?_, e3⟩
    rw [Nat.sub_zero, List.drop_length]
    rfl
  · rintro i σ H' _ ⟨_, _, eH⟩
    exact ex_l eH hx
  · rintro i x σ H' H'' hi ⟨v2, rfl, eH⟩ ⟨rfl, hx'⟩
    rw [vns_length] at hi hx'
    have hlt : l.length - 1 - i < l.length := by omega
    have hgx : l[l.length - 1 - i]? = some l[l.length - 1 - i] := List.getElem?_eq_getElem hlt
    have dd : l.drop (l.length - (i + 1)) = l[l.length - 1 - i] :: l.drop (l.length - i) := by
      rw [show l.length - (i + 1) = l.length - 1 - i by omega, List.drop_eq_getElem_cons hlt, show l.length - 1 - i + 1 = l.length - i by omega]
    generalize l[l.length - 1 - i] = y at hgx dd
    obtain ⟨n, hn, rfl⟩ := vns_get hx'
    rw [hgx] at hn
    have := Option.some.inj hn
    subst this
    refine s_asg (he _ _ _ (List.mem_iff_getElem?.mpr ⟨_, hgx⟩)) fun H4 e4 => ?_
    refine ⟨some (vn y), ?_, eH.trans e4⟩
    rw [dd]
    rfl
  · rintro σ H' ⟨v2, rfl, eH⟩
    rw [vns_length, Nat.sub_self, List.drop_zero]
    exact k v2 H' eH
end
section
variable {P : Program} {w : World} {K : PySem.W.Frag} {mg : Str → Option Value} {base : Heap} {CBoard CNumberedLine CStrokes CNews CPart CPlainLine CHall : Addr}
/-! ### check_of -/
theorem tN_get {b : Cd.Bytes} {i : Nat} {x : V} (h : (vns (tN b))[i]? = some x) : ∃ y, b[i]? = some y ∧ x = vn y.toNat := by
  obtain ⟨n, hn, rfl⟩ := vns_get h
  unfold tN at hn
  rw [List.getElem?_map] at hn
  cases q : b[i]? with
  | none =>
    rw [q] at hn
    cases hn
  | some y =>
    rw [q] at hn
    exact ⟨y, rfl, by rw [← Option.some.inj hn]⟩
theorem poly_off {v : Nat} (h1 : 65536 ≤ v) (h2 : v < 131072) : v ^^^ 69665 = (v - 65536) ^^^ 4129 := by
  have d : (v ^^^ 69665) / 2 ^ 16 = 0 := by
    rw [Nat.xor_div_two_pow, show v / 2 ^ 16 = 1 by omega]
    rfl
  have m : (v ^^^ 69665) % 2 ^ 16 = (v - 65536) ^^^ 4129 := by
    rw [Nat.xor_mod_two_pow, show v % 2 ^ 16 = v - 65536 by omega]
  have e := Nat.div_add_mod (v ^^^ 69665) (2 ^ 16)
  rw [d, m, Nat.mul_zero, Nat.zero_add] at e
  exact e.symm
theorem turns_lt : ∀ (i : Nat) {c : Nat}, c < 65536 → crcTurns i c < 65536
  | 0, _, h => h
  | i + 1, _, _ => crc_lt _ _
def spCheckOf (K : PySem.W.Frag) : Sp := spL fun vs H xs => ∃ (a : Addr) (b : Cd.Bytes), vs = [.ref a] ∧ SqL K H a (vns (tN b)) ∧ xs = vns (checkN b)
theorem scCheckOf : FnScope ["row", "check", "byte", "turn"] ["row"] (defScope tCheckOf) := ⟨rfl, rfl, rfl, by decide +kernel, rfl, by decide +kernel, by decide +kernel⟩
theorem ok_check_of {f : Addr} {fd : FuncData} (D : Raw K mg "check_of" tCheckOf f fd) (T : Tx K mg CBoard CNumberedLine CStrokes CNews CPart CPlainLine CHall) : Ok P w K mg base 1 "check_of" ["row"] (spCheckOf K) f fd := by
  refine ⟨D.fn.ok scCheckOf (fun vs H Q E h => ?_) (fun cdv A outer s H vs Q E hr h => ⟨_,
    (pss_cons (ps_set (i := 1) scCheckOf.nd rfl (Or.inl rfl) (pe_gi T.g_FIRST_CHECK))
      (pss_cons (ps_for PassesOwn.never rfl (pi_list (pv 0)) (pg_name (i := 2) scCheckOf.nd rfl (Or.inl rfl)) (pss_cons (ps_set (i := 1) scCheckOf.nd rfl (Or.inl rfl) (pe_op on_xor (pv 1) (pe_op on_shl (pv 2) pe_n)))
      (pss_one (ps_for PassesOwn.never rfl (pi_range1 (by rfl) T.b_range (pa_cons pe_n pa_nil)) (pg_name (i := 3) scCheckOf.nd rfl (Or.inl rfl)) (pss_cons (ps_set (i := 1) scCheckOf.nd rfl (Or.inl rfl) (pe_op on_shl (pv 1) pe_n))
      (pss_one (ps_if (pt_cmpR on_eq (pe_op on_shr (pv 1) pe_n) pe_n (nomark _)) (pss_one (ps_set (i := 1) scCheckOf.nd rfl (Or.inl rfl) (pe_op on_xor (pv 1) (pe_gi T.g_POLYNOMIAL)))) pss_nil)))))))
      (pss_one (ps_ret (pe_lst (pa_cons (pe_op on_div (pv 1) pe_n) (pa_cons (pe_op on_mod (pv 1) pe_n) pa_nil))))))), ?_⟩), D.at_, D.fn.kp, D.fn.binds fun _ _ _ _ _ _ us hl => match us, hl with | [_], _ => rfl⟩
  · obtain ⟨v, ⟨a, b, rfl, _⟩, _⟩ := h
    rfl
  · obtain ⟨v, ⟨a, b, rfl, hS, rfl⟩, kQ⟩ := h
    have tw : ∀ i, ((b.take i).foldl CdKeys.crcByte 0xFFFF) < 65536 := fun i => crc16_lt (b.take i)
    refine q_asg (v := vn 65535) ev_c fun H1 e1 => ?_
    refine q_forLn (j := 2) (ev_var rfl) (ex_l e1 hS) (fun i σ H' => ∃ v2 v3 : Option V, σ = [some (.ref a), some (vn ((b.take i).foldl CdKeys.crcByte 0xFFFF)), v2, v3] ∧ Evl.Ex H H')
      (fun H2 e2 => ⟨none, none, rfl, e1.trans e2⟩) (fun i σ' H' _ ⟨_, _, _, eH⟩ => ex_l eH hS) ?_ ?_
    · rintro i x σ' H' hi ⟨v2, v3, rfl, eH⟩
      obtain ⟨y, hy, rfl⟩ := tN_get hi
      have yl := y.toNat_lt
      have step : (b.take (i + 1)).foldl CdKeys.crcByte 0xFFFF = crcTurns 8 (((b.take i).foldl CdKeys.crcByte 0xFFFF) ^^^ y.toNat * 256) := by
        rw [take_more hy, List.foldl_append, ← crc_byte (tw i)]
        rfl
      have c0 : (((b.take i).foldl CdKeys.crcByte 0xFFFF) ^^^ y.toNat * 256) < 65536 := Nat.xor_lt_two_pow (n := 16) (tw i) (by omega)
      rw [step]
      refine q_asg (evN (n := (b.take i).foldl CdKeys.crcByte 0xFFFF) (m := y.toNat * 256) (ev_var rfl) (ev_is (evN (n := y.toNat) (m := 8) (ev_var rfl) ev_n ⟨by omega, by decide⟩) rfl) trivial) fun H2 e2 => ?_
      generalize (((b.take i).foldl CdKeys.crcByte 0xFFFF) ^^^ y.toNat * 256) = c at c0
      refine s_forR1 (j := 3) (n := 8) (ea_cons ev_n ea_nil) ⟨by decide, by decide⟩ (fun i σ H' => ∃ v3 : Option V, σ = [some (.ref a), some (vn (crcTurns i c)), some (vn y.toNat), v3] ∧ Evl.Ex H H')
        (fun H3 e3 => ⟨v3, rfl, (eH.trans e2).trans e3⟩) ?_ ?_
      · rintro i σ3 H3 hi ⟨v3, rfl, e3⟩
        have cl := turns_lt i c0
        have ts : crcTurns (i + 1) c = if 32768 ≤ crcTurns i c then (crcTurns i c * 2 - 65536) ^^^ 4129 else crcTurns i c * 2 := turn_is cl
        rw [ts]
        generalize crcTurns i c = d at cl
        refine q_asg (evN (n := d) (m := 1) (ev_var rfl) ev_n ⟨by omega, by decide⟩) fun H4 e4 => ?_
        refine s_when (etN (g := fun n m => decide (n = m)) (n := d * 2 ^ 1 / 2 ^ 16) (m := 1) (evN (n := d * 2 ^ 1) (m := 16) (ev_var rfl) ev_n trivial) ev_n trivial) (fun hb H5 e5 => ?_) (fun hb H5 e5 => ?_)
        · have h1 := of_decide_eq_true hb
          have h2 : 32768 ≤ d := by omega
          rw [if_pos h2]
          refine s_asg (v := vn ((d * 2 - 65536) ^^^ 4129)) (ev_is (evN (n := d * 2 ^ 1) (m := 69665) (ev_var rfl) ev_c trivial) ?_) fun H6 e6 => ⟨_, rfl, ((e3.trans e4).trans e5).trans e6⟩
          rw [show d * 2 ^ 1 = d * 2 by omega, poly_off (by omega) (by omega)]
        · have h1 := of_decide_eq_false hb
          have h2 : ¬ 32768 ≤ d := by omega
          rw [if_neg h2]
          exact ⟨_, rfl, (e3.trans e4).trans e5⟩
      · rintro σ3 H3 ⟨v3, rfl, e3⟩
        exact ⟨_, _, rfl, e3⟩
    · rintro σ' H' ⟨v2, v3, rfl, eH⟩
      have tl : (vns (tN b)).length = b.length := by rw [vns_length, tN_length]
      rw [tl, List.take_length]
      refine s_retL (el_lst (ea_cons (evN (n := CdKeys.crc16 b) (m := 256) (ev_var rfl) ev_n ⟨by decide, by decide⟩) (ea_cons (evN (n := CdKeys.crc16 b) (m := 256) (ev_var rfl) ev_n (by show 1 ≤ 256; decide)) ea_nil)) few) fun r H2 hr e2 h2 => ?_
      exact kQ r H2 (fresh_back eH hr) (eH.trans e2) h2

/-! ### ticks_bytes, ticks_of -/
def spTicksBytes : Sp := spL fun vs H xs => ∃ n : Nat, vs = [vn n] ∧ n < 2 ^ 28 ∧ xs = vns (tbN 4 n)
theorem scTicksBytes : FnScope ["ticks", "row"] ["ticks"] (defScope tTicksBytes) := ⟨rfl, rfl, rfl, by decide +kernel, rfl, by decide +kernel, by decide +kernel⟩
theorem ok_ticks_bytes {f : Addr} {fd : FuncData} (D : Raw K mg "ticks_bytes" tTicksBytes f fd) (T : Tx K mg CBoard CNumberedLine CStrokes CNews CPart CPlainLine CHall) : Ok P w K mg base 1 "ticks_bytes" ["ticks"] spTicksBytes f fd := by
  refine ⟨D.fn.ok scTicksBytes (fun vs H Q E h => ?_) (fun cdv A outer s H vs Q E hr h => ⟨_,
    (pss_cons (ps_set (i := 1) scTicksBytes.nd rfl (Or.inl rfl) (pe_lst pa_nil))
      (pss_cons (ps_while PassesOwn.never (pt_cmpR on_ge (pv 0) pe_n (nomark _)) (pss_cons (ps_expr (pe_bm PySem.F.plainAttrs_list PySem.F.slot_list_append PySem.F.type_list_append mt_append (pv 1) (pa_cons (pe_op on_add pe_n (pe_op on_mod (pv 0) pe_n)) pa_nil)))
      (pss_one (ps_set (i := 0) scTicksBytes.nd rfl (Or.inl rfl) (pe_op on_div (pv 0) pe_n)))))
      (pss_one (ps_ret (pe_op op_cat (pv 1) (pe_lst (pa_cons (pv 0) pa_nil))))))), ?_⟩), D.at_, D.fn.kp, D.fn.binds fun _ _ _ _ _ _ us hl => match us, hl with | [_], _ => rfl⟩
  · obtain ⟨v, ⟨n, rfl, _⟩, _⟩ := h
    rfl
  · obtain ⟨v, ⟨n, rfl, hn, rfl⟩, kQ⟩ := h
    refine q_asgL (el_lst ea_nil few) fun c H1 hc e1 h1 => ?_
    refine q_while (fun z σ H' => ∃ (m : Nat) (R : List Nat), σ = [some (vn m), some (.ref c)] ∧ Evl.Ex H H' ∧ H' c = some (.lst (vns R)) ∧ R ++ tbN (z + 1) m = tbN 4 n ∧ m < 128 ^ (z + 1) ∧ R.length + z = 3) 3
      ⟨n, [], rfl, e1, h1, rfl, hn, rfl⟩ ?_
    rintro z σ H' ⟨m, R, rfl, eH, hR, hM, hm, hl⟩
    refine ⟨decide (128 ≤ m), etN (g := fun n m => decide (m ≤ n)) (n := m) (m := 128) (ev_var rfl) ev_n trivial, fun hb H5 e5 => ?_, fun hb H5 e5 => ?_⟩
    · have ge := of_decide_eq_true hb
      obtain ⟨y, rfl⟩ : ∃ y, z = y + 1 := ⟨z - 1, by
        cases z with
        | zero => omega
        | succ y => rfl⟩
      refine ⟨_, fun σ2 H2 h => h, ?_⟩
      refine q_app (e5 _ _ hR) (ev_var rfl) (evN (n := 128) (m := m % 128) ev_n (evN (n := m) (m := 128) (ev_var rfl) ev_n (by show 1 ≤ 128; decide)) trivial) (by rw [vns_length]; omega) fun H6 e6 => ?_
      refine s_asg (evN (n := m) (m := 128) (ev_var rfl) ev_n ⟨by decide, by decide⟩) fun H7 e7 => ?_
      refine ⟨y, Nat.lt_succ_self y, m / 128, R ++ [128 + m % 128], rfl, ((eH.trans (e5.trans e6)).mut hc).trans e7, (e7 _ _ upd_same).trans (by rw [vns_append]; rfl), ?_, ?_, ?_⟩
      · rw [← hM, List.append_assoc]
        show R ++ ((128 + m % 128) :: tbN (y + 1) (m / 128)) = R ++ (if m < 128 then [m] else (128 + m % 128) :: tbN (y + 1) (m / 128))
        rw [if_neg (by omega)]
      · rw [Nat.div_lt_iff_lt_mul (by decide), ← Nat.pow_succ]
        exact hm
      · rw [List.length_append]
        show R.length + 1 + y = 3
        omega
    · have lt : m < 128 := by
        have := of_decide_eq_false hb
        omega
      refine s_retL (el_catV (ys := [vn m]) (ev_var rfl) (e5 _ _ hR) (el_lst (ea_cons (ev_var rfl) ea_nil) few) (by rw [vns_length]; show R.length + 1 ≤ 100000; omega)) fun r H6 hr e6 h6 => ?_
      have e : tbN 4 n = R ++ [m] := by
        rw [← hM]
        show R ++ (if m < 128 then [m] else _) = _
        rw [if_pos lt]
      rw [e, vns_append] at kQ
      exact kQ r H6 (fresh_back (eH.trans e5) hr) ((eH.trans e5).trans e6) h6
def spTicksOf (K : PySem.W.Frag) : Sp := spV fun vs H v => ∃ (a : Addr) (l : List Nat), vs = [.ref a] ∧ SqL K H a (vns l) ∧ v = vn (toN l)
theorem scTicksOf : FnScope ["row", "ticks", "byte"] ["row"] (defScope tTicksOf) := ⟨rfl, rfl, rfl, by decide +kernel, rfl, by decide +kernel, by decide +kernel⟩
theorem toN_foldr : ∀ l : List Nat, l.foldr (fun x n => n * 128 + x % 128) 0 = toN l
  | [] => rfl
  | x :: r => by
    show r.foldr _ 0 * 128 + x % 128 = x % 128 + 128 * toN r
    rw [toN_foldr r]
    omega
theorem ok_ticks_of {f : Addr} {fd : FuncData} (D : Raw K mg "ticks_of" tTicksOf f fd) (T : Tx K mg CBoard CNumberedLine CStrokes CNews CPart CPlainLine CHall) : Ok P w K mg base 1 "ticks_of" ["row"] (spTicksOf K) f fd := by
  refine ⟨D.fn.ok scTicksOf (fun vs H Q E h => ?_) (fun cdv A outer s H vs Q E hr h => ⟨_,
    (pss_cons (ps_set (i := 1) scTicksOf.nd rfl (Or.inl rfl) pe_n)
      (pss_cons (ps_for PassesOwn.never rfl (pi_reversed (by rfl) T.b_reversed (pa_cons (pv 0) pa_nil)) (pg_name (i := 2) scTicksOf.nd rfl (Or.inl rfl)) (pss_one (ps_set (i := 1) scTicksOf.nd rfl (Or.inl rfl) (pe_op on_add (pe_op on_mulR (pv 1) pe_n) (pe_op on_mod (pv 2) pe_n)))))
      (pss_one (ps_ret (pv 1))))), ?_⟩), D.at_, D.fn.kp, D.fn.binds fun _ _ _ _ _ _ us hl => match us, hl with | [_], _ => rfl⟩
  · obtain ⟨v, ⟨a, l, rfl, _⟩, _⟩ := h
    rfl
  · obtain ⟨v, ⟨a, l, rfl, hS, rfl⟩, kQ⟩ := h
    refine q_asg ev_n fun H1 e1 => ?_
    refine q_revN (l := l) (z := 0) (g := fun x n => n * 128 + x % 128) (ex_l e1 hS) (fun x acc H' _ => evN (n := acc * 128) (m := x % 128) (evN (n := acc) (m := 128) (ev_var rfl) ev_n (by show 128 ≤ 4294967296; decide)) (evN (n := x) (m := 128) (ev_var rfl) ev_n (by show 1 ≤ 128; decide)) trivial) fun v2 H2 e2 => ?_
    rw [toN_foldr]
    exact s_ret (ev_var rfl) fun H3 e3 => kQ H3 ((e1.trans e2).trans e3)

/-! ### chord_bytes, chord_of -/
def cbN (c : Nat) : List Nat := (List.range 6).map fun i => c / 2 ^ (8 * i) &&& 255
def spChordBytes : Sp := spL fun vs H xs => ∃ c : Nat, vs = [vn c] ∧ xs = vns (cbN c)
theorem scChordBytes : FnScope ["chord", "index"] ["chord"] (defScope tChordBytes) := ⟨rfl, rfl, rfl, by decide +kernel, rfl, by decide +kernel, by decide +kernel⟩
theorem ok_chord_bytes {f : Addr} {fd : FuncData} (D : Raw K mg "chord_bytes" tChordBytes f fd) (T : Tx K mg CBoard CNumberedLine CStrokes CNews CPart CPlainLine CHall) : Ok P w K mg base 1 "chord_bytes" ["chord"] spChordBytes f fd := by
  refine ⟨D.fn.ok scChordBytes (fun vs H Q E h => ?_) (fun cdv A outer s H vs Q E hr h => ⟨_,
    (pss_one (ps_ret (pe_lc (own := [("index", 1)]) (g := gName 1) (by rfl) scChordBytes.nd (pi_range1 (by rfl) T.b_range (pa_cons (pe_gi T.g_CHORD_LENGTH) pa_nil)) (blkOk_by (own := [("index", 1)]) (N := ["chord", "index"]) (sc := defScope tChordBytes) (by decide +kernel)) (fun _ _ _ _ _ => (pg_name (i := 1) scChordBytes.nd rfl (Or.inl rfl))) (fun _ _ _ _ _ => pts_nil) (fun _ _ _ _ _ => (pe_op on_and (pe_op on_shr (pv 0) (pe_op on_mul pe_n (pv 1))) pe_n))))), ?_⟩), D.at_, D.fn.kp, D.fn.binds fun _ _ _ _ _ _ us hl => match us, hl with | [_], _ => rfl⟩
  · obtain ⟨v, ⟨c, rfl, _⟩, _⟩ := h
    rfl
  · obtain ⟨v, ⟨c, rfl, rfl⟩, kQ⟩ := h
    refine s_retL (el_lcR1 (j := 1) (vs := [1]) (n := 6) (fun _ => true) (fun i => vn (c / 2 ^ (8 * i) &&& 255)) (ea_cons ev_c ea_nil) (by decide) (fun _ => rfl) (fun i H1 _ _ => et_yes) fun i H1 _ _ _ => evN (n := c / 2 ^ (8 * i)) (m := 255) (evN (n := c) (m := 8 * i) (ev_var rfl) (evN (n := 8) (m := i) ev_n (ev_var rfl) (by show 8 ≤ 4294967296; decide)) trivial) ev_n trivial) fun p H1 hp e1 h1 => ?_
    exact kQ p H1 hp e1 h1
def spChordOfB (K : PySem.W.Frag) : Sp := spV fun vs H v => ∃ (a : Addr) (l : List Nat), vs = [.ref a] ∧ SqL K H a (vns l) ∧ v = vn (co8 l)
theorem scChordOfBodies : FnScope ["row", "chord", "byte"] ["row"] (defScope tChordOfBodies) := ⟨rfl, rfl, rfl, by decide +kernel, rfl, by decide +kernel, by decide +kernel⟩
theorem co8_foldr : ∀ l : List Nat, l.foldr (fun x n => n * 256 + x) 0 = co8 l
  | [] => rfl
  | x :: r => by
    show r.foldr _ 0 * 256 + x = x + 256 * co8 r
    rw [co8_foldr r]
    omega
theorem ok_chord_of_bodies {f : Addr} {fd : FuncData} (D : RawA K mg "chord_of_bodies" "chord_of" tChordOfBodies f fd) (T : Tx K mg CBoard CNumberedLine CStrokes CNews CPart CPlainLine CHall) : Ok P w K mg base 1 "chord_of_bodies" ["row"] (spChordOfB K) f fd := by
  refine ⟨D.fn.ok scChordOfBodies (fun vs H Q E h => ?_) (fun cdv A outer s H vs Q E hr h => ⟨_,
    (pss_cons (ps_set (i := 1) scChordOfBodies.nd rfl (Or.inl rfl) pe_n)
      (pss_cons (ps_for PassesOwn.never rfl (pi_reversed (by rfl) T.b_reversed (pa_cons (pv 0) pa_nil)) (pg_name (i := 2) scChordOfBodies.nd rfl (Or.inl rfl)) (pss_one (ps_set (i := 1) scChordOfBodies.nd rfl (Or.inl rfl) (pe_op on_add (pe_op on_mulR (pv 1) pe_n) (pv 2)))))
      (pss_one (ps_ret (pv 1))))), ?_⟩), D.at_, D.fn.kp, D.fn.binds fun _ _ _ _ _ _ us hl => match us, hl with | [_], _ => rfl⟩
  · obtain ⟨v, ⟨a, l, rfl, _⟩, _⟩ := h
    rfl
  · obtain ⟨v, ⟨a, l, rfl, hS, rfl⟩, kQ⟩ := h
    refine q_asg ev_n fun H1 e1 => ?_
    refine q_revN (l := l) (z := 0) (g := fun x n => n * 256 + x) (ex_l e1 hS) (fun x acc H' _ => evN (n := acc * 256) (m := x) (evN (n := acc) (m := 256) (ev_var rfl) ev_n (by show 256 ≤ 4294967296; decide)) (ev_var rfl) trivial) fun v2 H2 e2 => ?_
    rw [co8_foldr]
    exact s_ret (ev_var rfl) fun H3 e3 => kQ H3 ((e1.trans e2).trans e3)

/-! ### body_of -/
theorem body_tN {n t c : Nat} (hn : n < 256) : tN (CdKeys.body n t c) = ([n] ++ tbN 4 t ++ cbN c) ++ checkN (UInt8.ofNat n :: (CdKeys.sevens 4 t ++ CdKeys.low6 c)) ∧ tN (UInt8.ofNat n :: (CdKeys.sevens 4 t ++ CdKeys.low6 c)) = [n] ++ tbN 4 t ++ cbN c := by
  have h1 : tN (UInt8.ofNat n :: (CdKeys.sevens 4 t ++ CdKeys.low6 c)) = [n] ++ tbN 4 t ++ cbN c := by
    show (UInt8.ofNat n).toNat :: tN (CdKeys.sevens 4 t ++ CdKeys.low6 c) = _
    rw [ofNat_toNat hn, tN_append, tbN_sevens]
    have : tN (CdKeys.low6 c) = cbN c := by
      unfold tN CdKeys.low6 cbN
      rw [List.map_map]
      refine List.map_congr_left fun i _ => ?_
      show (UInt8.ofNat (c / 256 ^ i % 256)).toNat = c / 2 ^ (8 * i) &&& 255
      rw [ofNat_toNat (Nat.mod_lt _ (by decide)), show (256 : Nat) = 2 ^ 8 from rfl, ← Nat.pow_mul]
      exact (Nat.and_two_pow_sub_one_eq_mod (c / 2 ^ (8 * i)) 8).symm
    rw [this]
    rfl
  refine ⟨?_, h1⟩
  unfold CdKeys.body
  dsimp only
  have l := crc16_lt (UInt8.ofNat n :: (CdKeys.sevens 4 t ++ CdKeys.low6 c))
  rw [tN_append, h1]
  congr 1
  show [(UInt8.ofNat _).toNat, (UInt8.ofNat _).toNat] = _
  rw [ofNat_toNat (by omega), ofNat_toNat (by omega)]
  rfl
theorem tbN_len : ∀ (f n : Nat), (tbN f n).length ≤ f
  | 0, _ => Nat.le_refl _
  | f + 1, n => by
    have ih := tbN_len f (n / 128)
    unfold tbN
    split
    · simp
    · rw [List.length_cons]
      omega
theorem cbN_len (c : Nat) : (cbN c).length = 6 := by
  unfold cbN
  rw [List.length_map, List.length_range]
def spBodyOf : Sp := spL fun vs H xs => ∃ n t c : Nat, vs = [vn n, vn t, vn c] ∧ n < 256 ∧ t < 2 ^ 28 ∧ xs = vns (tN (CdKeys.body n t c))
theorem scBodyOf : FnScope ["number", "ticks", "chord", "row"] ["number", "ticks", "chord"] (defScope tBodyOf) := ⟨rfl, rfl, rfl, by decide +kernel, rfl, by decide +kernel, by decide +kernel⟩
theorem ok_body_of {f f1 f2 f3 : Addr} {fd fd1 fd2 fd3 : FuncData} (D : Raw K mg "body_of" tBodyOf f fd) (T : Tx K mg CBoard CNumberedLine CStrokes CNews CPart CPlainLine CHall) (G_ticks_bytes : Ok P w K mg base 1 "ticks_bytes" ["ticks"] spTicksBytes f1 fd1) (G_chord_bytes : Ok P w K mg base 1 "chord_bytes" ["chord"] spChordBytes f2 fd2)
    (G_check_of : Ok P w K mg base 1 "check_of" ["row"] (spCheckOf K) f3 fd3) : Ok P w K mg base 2 "body_of" ["number", "ticks", "chord"] spBodyOf f fd := by
  refine ⟨D.fn.ok scBodyOf (fun vs H Q E h => ?_) (fun cdv A outer s H vs Q E hr h => ⟨_,
    (pss_cons (ps_set (i := 3) scBodyOf.nd rfl (Or.inl rfl) (pe_op op_cat (pe_op op_cat (pe_lst (pa_cons (pv 0) pa_nil)) (pe_own G_ticks_bytes hr (pa_cons (pv 1) pa_nil))) (pe_own G_chord_bytes hr (pa_cons (pv 2) pa_nil))))
      (pss_one (ps_ret (pe_op op_cat (pv 3) (pe_own G_check_of hr (pa_cons (pv 3) pa_nil)))))), ?_⟩), D.at_, D.fn.kp, D.fn.binds fun _ _ _ _ _ _ us hl => match us, hl with | [_, _, _], _ => rfl⟩
  · obtain ⟨v, ⟨n, t, c, rfl, _⟩, _⟩ := h
    rfl
  · obtain ⟨v, ⟨n, t, c, rfl, hn, ht, rfl⟩, kQ⟩ := h
    obtain ⟨h1, h2⟩ := body_tN (t := t) (c := c) hn
    have l1 := tbN_len 4 t
    have l2 := cbN_len c
    refine q_asgL (xs := ([vn n] ++ vns (tbN 4 t)) ++ vns (cbN c)) (el_cat (el_cat (el_lst (ea_cons (ev_var rfl) ea_nil) few) (el_call (ea_cons (ev_var rfl) ea_nil) (spL_is fun H' e' => ⟨t, rfl, ht, rfl⟩)) (by
      rw [vns_length]
      show 1 + _ ≤ 100000
      omega)) (el_call (ea_cons (ev_var rfl) ea_nil) (spL_is fun H' e' => ⟨c, rfl, rfl⟩)) (by
      rw [List.length_append, vns_length, vns_length]
      show 1 + _ + _ ≤ 100000
      omega)) fun r H1 hr e1 hR => ?_
    have ev : ([vn n] ++ vns (tbN 4 t)) ++ vns (cbN c) = vns (tN (UInt8.ofNat n :: (CdKeys.sevens 4 t ++ CdKeys.low6 c))) := by
      rw [h2, vns_append, vns_append]
      rfl
    rw [ev] at hR
    refine s_retL (el_catV (ev_var rfl) hR (el_call (ea_cons (ev_var rfl) ea_nil) (spL_is fun H' e' => ⟨r, _, rfl, sq_of (e' _ _ hR), rfl⟩)) (by
      rw [vns_length, vns_length, h2, List.length_append, List.length_append]
      show 1 + _ + _ + 2 ≤ 100000
      omega)) fun q H2 hq e2 hQ => ?_
    refine kQ q H2 (fresh_back e1 hq) (e1.trans e2) ?_
    rw [h1, vns_append, ← h2]
    exact hQ

/-! ### ticks_in, chord_in, fault_in -/
def spTicksIn (K : PySem.W.Frag) : Sp := spL fun vs H xs => ∃ (a : Addr) (l : List Nat), vs = [.ref a] ∧ SqL K H a (vns l) ∧ 8 ≤ l.length ∧ xs = vns (ticksIn l)
theorem scTicksIn : FnScope ["body"] ["body"] (defScope tTicksIn) := ⟨rfl, rfl, rfl, by decide +kernel, rfl, by decide +kernel, by decide +kernel⟩
theorem ok_ticks_in {f : Addr} {fd : FuncData} (D : Raw K mg "ticks_in" tTicksIn f fd) (T : Tx K mg CBoard CNumberedLine CStrokes CNews CPart CPlainLine CHall) : Ok P w K mg base 1 "ticks_in" ["body"] (spTicksIn K) f fd := by
  refine ⟨D.fn.ok scTicksIn (fun vs H Q E h => ?_) (fun cdv A outer s H vs Q E hr h => ⟨_,
    (pss_one (ps_ret (pe_slice sl_list (pv 0) (po_some (pe_gi T.g_TICKS_START)) (po_some (pe_op on_sub (pe_callB call_len_seq (by rfl) T.b_len PySem.boot_len (pa_cons (pv 0) pa_nil)) (pe_gi T.g_CHORD_START)))))), ?_⟩), D.at_, D.fn.kp, D.fn.binds fun _ _ _ _ _ _ us hl => match us, hl with | [_], _ => rfl⟩
  · obtain ⟨v, ⟨a, l, rfl, _⟩, _⟩ := h
    rfl
  · obtain ⟨v, ⟨a, l, rfl, hS, hl, rfl⟩, kQ⟩ := h
    refine s_retL (el_part (i := 1) (j := l.length - 8) (ev_var rfl) ev_c (evN (n := l.length) (m := 8) (ev_lenN' (ev_var rfl) hS) ev_c hl) hS) fun r H1 hr e1 h1 => ?_
    exact kQ r H1 hr e1 h1
def spChordIn (K : PySem.W.Frag) : Sp := spV fun vs H v => ∃ (a : Addr) (l : List Nat), vs = [.ref a] ∧ SqL K H a (vns l) ∧ 8 ≤ l.length ∧ v = vn (chordIn l)
theorem scChordIn : FnScope ["body"] ["body"] (defScope tChordIn) := ⟨rfl, rfl, rfl, by decide +kernel, rfl, by decide +kernel, by decide +kernel⟩
theorem ok_chord_in {f f1 : Addr} {fd fd1 : FuncData} (D : Raw K mg "chord_in" tChordIn f fd) (T : Tx K mg CBoard CNumberedLine CStrokes CNews CPart CPlainLine CHall) (G_chord_of_bodies : Ok P w K mg base 1 "chord_of_bodies" ["row"] (spChordOfB K) f1 fd1) : Ok P w K mg base 2 "chord_in" ["body"] (spChordIn K) f fd := by
  refine ⟨D.fn.ok scChordIn (fun vs H Q E h => ?_) (fun cdv A outer s H vs Q E hr h => ⟨_,
    (pss_one (ps_ret (pe_own G_chord_of_bodies hr (pa_cons (pe_slice sl_list (pv 0) (po_some (pe_op on_sub (pe_callB call_len_seq (by rfl) T.b_len PySem.boot_len (pa_cons (pv 0) pa_nil)) (pe_gi T.g_CHORD_START))) (po_some (pe_op on_sub (pe_callB call_len_seq (by rfl) T.b_len PySem.boot_len (pa_cons (pv 0) pa_nil)) (pe_gi T.g_CHECK_START)))) pa_nil)))), ?_⟩), D.at_, D.fn.kp, D.fn.binds fun _ _ _ _ _ _ us hl => match us, hl with | [_], _ => rfl⟩
  · obtain ⟨v, ⟨a, l, rfl, _⟩, _⟩ := h
    rfl
  · obtain ⟨v, ⟨a, l, rfl, hS, hl, rfl⟩, kQ⟩ := h
    refine s_ret (ev_callL1 (el_part (i := l.length - 8) (j := l.length - 2) (ev_var rfl) (evN (n := l.length) (m := 8) (ev_lenN' (ev_var rfl) hS) ev_c hl) (evN (n := l.length) (m := 2) (ev_lenN' (ev_var rfl) hS) ev_c (by show 2 ≤ l.length; omega)) hS) fun p H1 e1 h1 => spV_is fun H' e' => ⟨p, _, rfl, sq_of (e' _ _ h1), rfl⟩) fun H1 e1 => ?_
    exact kQ H1 e1
def spFaultIn (K : PySem.W.Frag) (CB : Addr) : Sp := spV fun vs H v => ∃ (a bA : Addr) (b : Cd.Bytes) (k : Kb), vs = [.ref a, .ref bA] ∧ SqL K H a (vns (tN b)) ∧ b.length ≤ 13 ∧ IsBoard CB H bA k ∧ v = vn (faultIn k.size b)
theorem scFaultIn : FnScope ["body", "board", "check_start", "ticks"] ["body", "board"] (defScope tFaultIn) := ⟨rfl, rfl, rfl, by decide +kernel, rfl, by decide +kernel, by decide +kernel⟩
theorem ok_fault_in {f f1 f2 f3 f4 f5 f6 : Addr} {fd fd1 fd2 fd3 fd4 fd5 fd6 : FuncData} (D : Raw K mg "fault_in" tFaultIn f fd) (T : Tx K mg CBoard CNumberedLine CStrokes CNews CPart CPlainLine CHall)
    (G_check_of : Ok P w K mg base 1 "check_of" ["row"] (spCheckOf K) f1 fd1) (G_ticks_in : Ok P w K mg base 1 "ticks_in" ["body"] (spTicksIn K) f2 fd2) (G_ticks_bytes : Ok P w K mg base 1 "ticks_bytes" ["ticks"] spTicksBytes f3 fd3)
    (G_ticks_of : Ok P w K mg base 1 "ticks_of" ["row"] (spTicksOf K) f4 fd4) (G_Board_owns : OkM P w K mg base 2 CBoard "owns" ["self", "chord"] (spOwns CBoard) f5 fd5) (G_chord_in : Ok P w K mg base 2 "chord_in" ["body"] (spChordIn K) f6 fd6) :
    Ok P w K mg base 3 "fault_in" ["body", "board"] (spFaultIn K CBoard) f fd := by
  refine ⟨D.fn.ok scFaultIn (fun vs H Q E h => ?_) (fun cdv A outer s H vs Q E hr h => ⟨_,
    (pss_cons (ps_if (pt_cmpR on_lt (pe_callB call_len_seq (by rfl) T.b_len PySem.boot_len (pa_cons (pv 0) pa_nil)) (pe_gi T.g_SHORTEST_BODY) (nomark _)) (pss_one (ps_ret (pe_gi T.g_TOO_SHORT))) pss_nil)
      (pss_cons (ps_set (i := 2) scFaultIn.nd rfl (Or.inl rfl) (pe_op on_sub (pe_callB call_len_seq (by rfl) T.b_len PySem.boot_len (pa_cons (pv 0) pa_nil)) (pe_gi T.g_CHECK_START)))
      (pss_cons (ps_if (pt_cmpR (op_neD hr.units) (pe_slice sl_list (pv 0) (po_some (pv 2)) po_none) (pe_own G_check_of hr (pa_cons (pe_slice sl_list (pv 0) po_none (po_some (pv 2))) pa_nil)) (nomark _)) (pss_one (ps_ret (pe_gi T.g_WRONG_CHECK))) pss_nil)
      (pss_cons (ps_set (i := 3) scFaultIn.nd rfl (Or.inl rfl) (pe_own G_ticks_in hr (pa_cons (pv 0) pa_nil)))
      (pss_cons (ps_if (pt_cmpR (op_neD hr.units) (pv 3) (pe_own G_ticks_bytes hr (pa_cons (pe_own G_ticks_of hr (pa_cons (pv 3) pa_nil)) pa_nil)) (nomark _)) (pss_one (ps_ret (pe_gi T.g_WRONG_TICKS))) pss_nil)
      (pss_cons (ps_if (pt_not (pt_val (pe_ownM G_Board_owns T.c_Board hr (pv 1) (pa_cons (pe_own G_chord_in hr (pa_cons (pv 0) pa_nil)) pa_nil)))) (pss_one (ps_ret (pe_gi T.g_NO_CHORD_bodies))) pss_nil)
      (pss_one (ps_ret (pe_gi T.g_NO_FAULT))))))))), ?_⟩), D.at_, D.fn.kp, D.fn.binds fun _ _ _ _ _ _ us hl => match us, hl with | [_, _], _ => rfl⟩
  · obtain ⟨v, ⟨a, bA, b, k, rfl, _⟩, _⟩ := h
    rfl
  · obtain ⟨v, ⟨a, bA, b, k, rfl, hS, hl, hB, rfl⟩, kQ⟩ := h
    have tl : (tN b).length = b.length := tN_length b
    unfold faultIn at kQ
    refine q_when (etN (g := fun n m => decide (n < m)) (n := b.length) (m := 10) (ev_is (ev_lenN' (ev_var rfl) hS) (by rw [tl])) ev_c trivial) (fun b1 H1 e1 => ?_) (fun b1 H1 e1 => ?_)
    · rw [if_pos (of_decide_eq_true b1)] at kQ
      exact s_ret ev_c fun H2 e2 => kQ H2 (e1.trans e2)
    have n10 : ¬ b.length < 10 := of_decide_eq_false b1
    rw [if_neg n10] at kQ
    refine q_asg (v := vn (b.length - 2)) (evN (n := b.length) (m := 2) (ev_is (ev_lenN' (ev_var rfl) (ex_l e1 hS)) (by rw [tl])) ev_c (by show 2 ≤ b.length; omega)) fun H2 e2 => ?_
    have hS2 := ex_l (e1.trans e2) hS
    refine q_when (et_test (ev_opLL (el_from (l := tN b) (i := b.length - 2) (ev_var rfl) (ev_var rfl) hS2) (el_callN1 (el_to (l := tN b) (j := b.length - 2) (ev_var rfl) (ev_var rfl) hS2) fun p H3 e3 h3 => spL_is fun H' e' => ⟨p, b.take (b.length - 2), rfl, sq_of ((e' _ _ h3).trans (by rw [tN_take])), rfl⟩) fun p q H3 hp hq e3 => rv_neN (sq_of hp) (sq_of hq))) (fun b2 H3 e3 => ?_) (fun b2 H3 e3 => ?_)
    · rw [if_pos b2] at kQ
      exact s_ret ev_c fun H4 e4 => kQ H4 (((e1.trans e2).trans e3).trans e4)
    rw [if_neg (by rw [b2]; decide)] at kQ
    have e13 := (e1.trans e2).trans e3
    refine q_asgL (el_call (ea_cons (ev_var rfl) ea_nil) (spL_is fun H' e' => ⟨a, tN b, rfl, ex_l (e13.trans e') hS, by omega, rfl⟩)) fun t H4 ht e4 h4 => ?_
    have tln : (ticksIn (tN b)).length ≤ 4 := by
      unfold ticksIn
      rw [List.length_take, List.length_drop, tl]
      omega
    have tlt : toN (ticksIn (tN b)) < 2 ^ 28 := Nat.lt_of_lt_of_le (toN_lt _) (Nat.pow_le_pow_right (by decide) tln : 128 ^ (ticksIn (tN b)).length ≤ 128 ^ 4)
    refine q_when (et_test (ev_opL (ev_var rfl) (el_call (ea_cons (ev_call (ea_cons (ev_var rfl) ea_nil) (spV_is fun H' e' => ⟨t, _, rfl, sq_of (e' _ _ h4), rfl⟩)) ea_nil) (spL_is fun H' e' => ⟨_, rfl, tlt, rfl⟩)) fun q H5 hq e5 => rv_neN (sq_of (e5 _ _ h4)) (sq_of hq))) (fun b3 H5 e5 => ?_) (fun b3 H5 e5 => ?_)
    · rw [if_pos b3] at kQ
      exact s_ret ev_c fun H6 e6 => kQ H6 (((e13.trans e4).trans e5).trans e6)
    rw [if_neg (by rw [b3]; decide)] at kQ
    have e15 := (e13.trans e4).trans e5
    obtain ⟨bdx, lA, dA, as, hB'⟩ := id hB
    refine q_when (et_not (et_B (b := decide (1 ≤ chordIn (tN b)) && decide (chordIn (tN b) < 2 ^ k.size)) (ev_meth (ev_var rfl) (e15 _ _ hB'.ob) rfl (ea_cons (ev_call (ea_cons (ev_var rfl) ea_nil) (spV_is fun H' e' => ⟨a, tN b, rfl, ex_l (e15.trans e') hS, by omega, rfl⟩)) ea_nil) (spV_is fun H' e' => ⟨bA, k, chordIn (tN b), rfl, hB.ex (e15.trans e'), rfl⟩)))) (fun b4 H6 e6 => ?_) (fun b4 H6 e6 => ?_)
    · rw [if_pos b4] at kQ
      exact s_ret ev_c fun H7 e7 => kQ H7 ((e15.trans e6).trans e7)
    · rw [if_neg (by rw [b4]; decide)] at kQ
      exact s_ret ev_c fun H7 e7 => kQ H7 ((e15.trans e6).trans e7)
end
end Kx

-- KLine
/-! What is received as it's told; packets; how the lines lie in the heap. -/
namespace Kx
open PySem PySem.Spec PyProof.Rows L2 Evl

section
variable {K : PySem.W.Frag} {σ : L2.St} {H : Hp} {te tl : TE} {tt : TT} {xs : List V}
theorem ev_sumN {l : List Nat} (h : EvL te σ H (vns l)) : Ev (tCB (rSum K) (tCons te tNil)) σ H (vn l.sum) := fun H1 e Q q => h H1 e _ fun p H2 _ e2 h2 =>
  ⟨p, l.map fun n : Nat => (n : Int), rfl, sq_of (h2.trans (by
    unfold vns
    rw [List.map_map]
    rfl)), by
    have s : (l.map fun n : Nat => (n : Int)).sum = ((l.sum : Nat) : Int) := by
      induction l with
      | nil => rfl
      | cons x r ih =>
        rw [List.map_cons, List.sum_cons, List.sum_cons]
        have ih' : (r.map fun n : Nat => (n : Int)).sum = ((r.sum : Nat) : Int) := by
          clear ih h h2 q
          induction r with
          | nil => rfl
          | cons y t ih => rw [List.map_cons, List.sum_cons, List.sum_cons, ih]; rfl
        rw [ih']
        rfl
    rw [s]
    exact q H2 e2⟩
/-- a comprehension over a new tuple -/
theorem el_lcNU {j : Nat} {vs : List Nat} (f : Nat → Bool) (v : Nat → V) (h : EvU tl σ H xs) (hz : xs.length ≤ 40000) (hw : ∀ x, wipe ((wipe σ vs).set j (some x)) vs = wipe σ vs)
    (ht : ∀ (i : Nat) (x : V) H1, Evl.Ex H H1 → xs[i]? = some x → EvT tt ((wipe σ vs).set j (some x)) H1 (f i)) (he : ∀ (i : Nat) (x : V) H1, Evl.Ex H H1 → xs[i]? = some x → f i = true → Ev te ((wipe σ vs).set j (some x)) H1 (v i)) :
    EvL (tLc (iTup K tl) (gName j) tt te vs) σ H (given xs.length f v) := fun H0 e Q q => h H0 e _ fun a H1 ha e1 hx => ⟨a, rfl, ⟨xs, st_of hx⟩, fun Dl hD =>
  lc_tup (xs := xs) (Cw H1 f v Dl) ⟨hD, Evl.Ex.new hD, upd_same⟩ (fun i H' _ p => st_of (p.2.1 a _ hx)) (fun i x H' hi p => ⟨hw x, cw_turn p (by have := (List.getElem?_eq_some_iff.mp hi).1; omega) (ht i x H1 (e.trans e1) hi) (fun hf => he i x H1 (e.trans e1) hi hf)⟩)
    (fun H' p => q Dl H' (fresh_back e1 p.1) (e1.trans p.2.1) p.2.2)⟩
end
section
variable {P : Program} {w : World} {K : PySem.W.Frag} {mg : Str → Option Value} {base : Heap} {CBoard CNumberedLine CStrokes CNews CPart CPlainLine CHall : Addr}
/-! ### fault_told, chord_told -/
def gots (l : List CdKeys.Got) : List Nat := l.flatMap KeysCalls.gotNums
def spFaultTold : Sp := spL fun vs H xs => ∃ k p : Nat, vs = [vn k, vn p] ∧ xs = vns (gots [.fault k p])
theorem scFaultTold : FnScope ["kind", "place"] ["kind", "place"] (defScope tFaultTold) := ⟨rfl, rfl, rfl, by decide +kernel, rfl, by decide +kernel, by decide +kernel⟩
theorem ok_fault_told {f : Addr} {fd : FuncData} (D : Raw K mg "fault_told" tFaultTold f fd) (T : Tx K mg CBoard CNumberedLine CStrokes CNews CPart CPlainLine CHall) : Ok P w K mg base 1 "fault_told" ["kind", "place"] spFaultTold f fd := by
  refine ⟨D.fn.ok scFaultTold (fun vs H Q E h => ?_) (fun cdv A outer s H vs Q E hr h => ⟨_,
    (pss_one (ps_ret (pe_lst (pa_cons (pv 0) (pa_cons (pv 1) (pa_cons pe_n (pa_cons pe_n pa_nil))))))), ?_⟩), D.at_, D.fn.kp, D.fn.binds fun _ _ _ _ _ _ us hl => match us, hl with | [_, _], _ => rfl⟩
  · obtain ⟨v, ⟨k, p, rfl, _⟩, _⟩ := h
    rfl
  · obtain ⟨v, ⟨k, p, rfl, rfl⟩, kQ⟩ := h
    exact s_retL (el_lst (ea_cons (ev_var rfl) (ea_cons (ev_var rfl) (ea_cons ev_n (ea_cons ev_n ea_nil)))) few) fun r H1 hr e1 h1 => kQ r H1 hr e1 h1
def spChordTold : Sp := spL fun vs H xs => ∃ c t l : Nat, vs = [vn c, vn t, vn l] ∧ xs = vns (gots [.chord c t l])
theorem scChordTold : FnScope ["chord", "ticks", "lost"] ["chord", "ticks", "lost"] (defScope tChordTold) := ⟨rfl, rfl, rfl, by decide +kernel, rfl, by decide +kernel, by decide +kernel⟩
theorem ok_chord_told {f : Addr} {fd : FuncData} (D : Raw K mg "chord_told" tChordTold f fd) (T : Tx K mg CBoard CNumberedLine CStrokes CNews CPart CPlainLine CHall) : Ok P w K mg base 1 "chord_told" ["chord", "ticks", "lost"] spChordTold f fd := by
  refine ⟨D.fn.ok scChordTold (fun vs H Q E h => ?_) (fun cdv A outer s H vs Q E hr h => ⟨_,
    (pss_one (ps_ret (pe_lst (pa_cons (pe_gi T.g_CHORD) (pa_cons (pv 0) (pa_cons (pv 1) (pa_cons (pv 2) pa_nil))))))), ?_⟩), D.at_, D.fn.kp, D.fn.binds fun _ _ _ _ _ _ us hl => match us, hl with | [_, _, _], _ => rfl⟩
  · obtain ⟨v, ⟨c, t, l, rfl, _⟩, _⟩ := h
    rfl
  · obtain ⟨v, ⟨c, t, l, rfl, rfl⟩, kQ⟩ := h
    exact s_retL (el_lst (ea_cons ev_c (ea_cons (ev_var rfl) (ea_cons (ev_var rfl) (ea_cons (ev_var rfl) ea_nil)))) few) fun r H1 hr e1 h1 => kQ r H1 hr e1 h1

/-! ### is_reserved -/
def resN (n : Nat) : Bool := decide (n = 2 ∨ n = 3 ∨ n = 16)
def spIsReserved : Sp := spV fun vs H v => ∃ n : Nat, vs = [vn n] ∧ v = .bl (resN n)
theorem scIsReserved : FnScope ["byte"] ["byte"] (defScope tIsReserved) := ⟨rfl, rfl, rfl, by decide +kernel, rfl, by decide +kernel, by decide +kernel⟩
theorem ok_is_reserved {f : Addr} {fd : FuncData} (D : Raw K mg "is_reserved" tIsReserved f fd) (T : Tx K mg CBoard CNumberedLine CStrokes CNews CPart CPlainLine CHall) : Ok P w K mg base 1 "is_reserved" ["byte"] spIsReserved f fd := by
  refine ⟨D.fn.ok scIsReserved (fun vs H Q E h => ?_) (fun cdv A outer s H vs Q E hr h => ⟨_,
    (pss_one (ps_ret (pe_cmpR op_in_seq (pv 0) (pe_tup (pa_cons (pe_gi T.g_OPENING) (pa_cons (pe_gi T.g_CLOSING) (pa_cons (pe_gi T.g_ESCAPE) pa_nil)))) (by rfl)))), ?_⟩), D.at_, D.fn.kp, D.fn.binds fun _ _ _ _ _ _ us hl => match us, hl with | [_], _ => rfl⟩
  · obtain ⟨v, ⟨n, rfl, _⟩, _⟩ := h
    rfl
  · obtain ⟨v, ⟨n, rfl, rfl⟩, kQ⟩ := h
    refine s_ret (ev_inU (ev_var rfl) (eu_tup (ea_cons ev_c (ea_cons ev_c (ea_cons ev_c ea_nil))) (by decide)) rfl rfl) fun H1 e1 => ?_
    have e : inV (vn n) [vn 2, vn 3, vn 16] = resN n := by
      have := inV_vns n [2, 3, 16]
      rw [show vns [2, 3, 16] = [vn 2, vn 3, vn 16] from rfl] at this
      rw [this]
      refine decide_eq_decide.mpr ?_
      simp
    rw [e]
    exact kQ H1 e1

/-! ### first_byte, packet_of, chord_of -/
theorem cnt_sum : ∀ (n c : Nat), ((List.range n).map fun i => c / 2 ^ i &&& 1).sum = cntB n c
  | 0, _ => rfl
  | n + 1, c => by
    have ih := cnt_sum n (c / 2)
    rw [List.range_succ_eq_map, List.map_cons, List.sum_cons, List.map_map]
    have e : ((fun i => c / 2 ^ i &&& 1) ∘ Nat.succ) = fun i => c / 2 / 2 ^ i &&& 1 := by
      funext i
      show c / 2 ^ (i + 1) &&& 1 = c / 2 / 2 ^ i &&& 1
      rw [Nat.div_div_eq_div_mul, Nat.pow_succ, Nat.mul_comm]
    rw [e, ih]
    show (c / 2 ^ 0 &&& 1) + cntB n (c / 2) = c % 2 + cntB n (c / 2)
    rw [Nat.pow_zero, Nat.div_one]
    have := Nat.and_two_pow_sub_one_eq_mod c 1
    rw [show c &&& 1 = c % 2 from this]
def spFirstByte : Sp := spV fun vs H v => ∃ c : Nat, vs = [vn c] ∧ v = vn (firstB c)
theorem scFirstByte : FnScope ["chord", "keys", "key"] ["chord"] (defScope tFirstByte) := ⟨rfl, rfl, rfl, by decide +kernel, rfl, by decide +kernel, by decide +kernel⟩
theorem ok_first_byte {f : Addr} {fd : FuncData} (D : Raw K mg "first_byte" tFirstByte f fd) (T : Tx K mg CBoard CNumberedLine CStrokes CNews CPart CPlainLine CHall) : Ok P w K mg base 1 "first_byte" ["chord"] spFirstByte f fd := by
  refine ⟨D.fn.ok scFirstByte (fun vs H Q E h => ?_) (fun cdv A outer s H vs Q E hr h => ⟨_,
    (pss_cons (ps_set (i := 1) scFirstByte.nd rfl (Or.inl rfl) (pe_callB (cr_sum rfl) (by rfl) T.b_sum (by decide +kernel) (pa_cons (pe_lc (own := [("key", 2)]) (g := gName 2) (by rfl) scFirstByte.nd (pi_range1 (by rfl) T.b_range (pa_cons (pe_gi T.g_MOST_KEYS) pa_nil)) (blkOk_by (own := [("key", 2)]) (N := ["chord", "keys", "key"]) (sc := defScope tFirstByte) (by decide +kernel)) (fun _ _ _ _ _ => (pg_name (i := 2) scFirstByte.nd rfl (Or.inl rfl))) (fun _ _ _ _ _ => pts_nil) (fun _ _ _ _ _ => (pe_op on_and (pe_op on_shr (pv 0) (pv 2)) pe_n))) pa_nil)))
      (pss_one (ps_ret (pe_op on_add (pe_op on_add (pe_gi T.g_FIRST_MARK) (pe_op on_mul (pe_gi T.g_ODD_MARK) (pe_op on_mod (pv 1) pe_n))) (pe_op on_shr (pv 0) pe_n))))), ?_⟩), D.at_, D.fn.kp, D.fn.binds fun _ _ _ _ _ _ us hl => match us, hl with | [_], _ => rfl⟩
  · obtain ⟨v, ⟨c, rfl, _⟩, _⟩ := h
    rfl
  · obtain ⟨v, ⟨c, rfl, rfl⟩, kQ⟩ := h
    refine q_asg (ev_sumN (l := (List.range 48).map fun i => c / 2 ^ i &&& 1) (el_lcR1 (j := 2) (vs := [2]) (n := 48) (fun _ => true) (fun i => vn (c / 2 ^ i &&& 1)) (ea_cons ev_c ea_nil) (by decide) (fun _ => rfl) (fun i H1 _ _ => et_yes) fun i H1 _ _ _ => evN (n := c / 2 ^ i) (m := 1) (evN (n := c) (m := i) (ev_var rfl) (ev_var rfl) trivial) ev_n trivial)) fun H1 e1 => ?_
    rw [cnt_sum]
    refine s_ret (evN (n := 128 + 64 * (cntB 48 c % 2)) (m := c / 2 ^ 42) (evN (n := 128) (m := 64 * (cntB 48 c % 2)) ev_c (evN (n := 64) (m := cntB 48 c % 2) ev_c (evN (n := cntB 48 c) (m := 2) (ev_var rfl) ev_n (by show 1 ≤ 2; decide)) (by show 64 ≤ 4294967296; decide)) trivial) (evN (n := c) (m := 42) (ev_var rfl) ev_n trivial) trivial) fun H2 e2 => ?_
    unfold firstB at kQ
    rw [odd_cnt] at kQ
    exact kQ H2 (e1.trans e2)
def spPacketOf : Sp := spL fun vs H xs => ∃ c : Nat, vs = [vn c] ∧ c < 2 ^ 48 ∧ xs = vns (tN (CdKeys.packet c))
theorem scPacketOf : FnScope ["chord", "lowest"] ["chord"] (defScope tPacketOf) := ⟨rfl, rfl, rfl, by decide +kernel, rfl, by decide +kernel, by decide +kernel⟩
theorem six_at {x : V} {i : Nat} (h : (vns [35, 28, 21, 14, 7, 0])[i]? = some x) : x = vn ([35, 28, 21, 14, 7, 0].getD i 0) := (vns_item h).1
theorem ok_packet_of {f f1 : Addr} {fd fd1 : FuncData} (D : Raw K mg "packet_of" tPacketOf f fd) (T : Tx K mg CBoard CNumberedLine CStrokes CNews CPart CPlainLine CHall) (G_first_byte : Ok P w K mg base 1 "first_byte" ["chord"] spFirstByte f1 fd1) : Ok P w K mg base 2 "packet_of" ["chord"] spPacketOf f fd := by
  refine ⟨D.fn.ok scPacketOf (fun vs H Q E h => ?_) (fun cdv A outer s H vs Q E hr h => ⟨_,
    (pss_one (ps_ret (pe_op op_cat (pe_lst (pa_cons (pe_own G_first_byte hr (pa_cons (pv 0) pa_nil)) pa_nil)) (pe_lc (own := [("lowest", 1)]) (g := gName 1) (by rfl) scPacketOf.nd (pi_tup (pe_tup (pa_cons pe_n (pa_cons pe_n (pa_cons pe_n (pa_cons pe_n (pa_cons pe_n (pa_cons pe_n pa_nil)))))))) (blkOk_by (own := [("lowest", 1)]) (N := ["chord", "lowest"]) (sc := defScope tPacketOf) (by decide +kernel)) (fun _ _ _ _ _ => (pg_name (i := 1) scPacketOf.nd rfl (Or.inl rfl))) (fun _ _ _ _ _ => pts_nil) (fun _ _ _ _ _ => (pe_op on_and (pe_op on_shr (pv 0) (pv 1)) pe_n)))))), ?_⟩), D.at_, D.fn.kp, D.fn.binds fun _ _ _ _ _ _ us hl => match us, hl with | [_], _ => rfl⟩
  · obtain ⟨v, ⟨c, rfl, _⟩, _⟩ := h
    rfl
  · obtain ⟨v, ⟨c, rfl, hc, rfl⟩, kQ⟩ := h
    rw [packet_tN hc] at kQ
    refine s_retL (xs := [vn (firstB c)] ++ given 6 (fun _ => true) (fun i => vn (c / 2 ^ ([35, 28, 21, 14, 7, 0].getD i 0) &&& 127))) (el_cat (el_lst (ea_cons (ev_call (ea_cons (ev_var rfl) ea_nil) (spV_is fun H' e' => ⟨c, rfl, rfl⟩)) ea_nil) few)
      (el_lcNU (j := 1) (vs := [1]) (xs := vns [35, 28, 21, 14, 7, 0]) (fun _ => true) (fun i => vn (c / 2 ^ ([35, 28, 21, 14, 7, 0].getD i 0) &&& 127)) (eu_tup (ea_cons ev_n (ea_cons ev_n (ea_cons ev_n (ea_cons ev_n (ea_cons ev_n (ea_cons ev_n ea_nil)))))) (by decide)) (by decide) (fun _ => rfl) (fun i x H1 _ _ => et_yes) fun i x H1 _ hx _ => by
        rw [six_at hx]
        exact evN (n := c / 2 ^ ([35, 28, 21, 14, 7, 0].getD i 0)) (m := 127) (evN (n := c) (m := [35, 28, 21, 14, 7, 0].getD i 0) (ev_var rfl) (ev_var rfl) trivial) ev_n trivial) (by
        show 1 + 6 ≤ 100000
        decide)) fun r H1 hr e1 h1 => ?_
    exact kQ r H1 hr e1 h1
def spChordOfP (K : PySem.W.Frag) : Sp := spV fun vs H v => ∃ (a : Addr) (l : List Nat), vs = [.ref a] ∧ SqL K H a (vns l) ∧ 1 ≤ l.length ∧ l.length ≤ 100 ∧ v = vn (pChord l)
theorem scChordOfPackets : FnScope ["packet", "chord", "byte"] ["packet"] (defScope tChordOfPackets) := ⟨rfl, rfl, rfl, by decide +kernel, rfl, by decide +kernel, by decide +kernel⟩
theorem ok_chord_of_packets {f : Addr} {fd : FuncData} (D : RawA K mg "chord_of_packets" "chord_of" tChordOfPackets f fd) (T : Tx K mg CBoard CNumberedLine CStrokes CNews CPart CPlainLine CHall) : Ok P w K mg base 1 "chord_of_packets" ["packet"] (spChordOfP K) f fd := by
  refine ⟨D.fn.ok scChordOfPackets (fun vs H Q E h => ?_) (fun cdv A outer s H vs Q E hr h => ⟨_,
    (pss_cons (ps_set (i := 1) scChordOfPackets.nd rfl (Or.inl rfl) (pe_op on_mod (pe_ix ix_list (pv 0) pe_n (fun _ _ => rfl)) (pe_gi T.g_ODD_MARK)))
      (pss_cons (ps_for PassesOwn.never rfl (pi_list (pe_slice sl_list (pv 0) (po_some pe_n) po_none)) (pg_name (i := 2) scChordOfPackets.nd rfl (Or.inl rfl)) (pss_one (ps_set (i := 1) scChordOfPackets.nd rfl (Or.inl rfl) (pe_op on_add (pe_op on_mulR (pv 1) pe_n) (pv 2)))))
      (pss_one (ps_ret (pv 1))))), ?_⟩), D.at_, D.fn.kp, D.fn.binds fun _ _ _ _ _ _ us hl => match us, hl with | [_], _ => rfl⟩
  · obtain ⟨v, ⟨a, l, rfl, _⟩, _⟩ := h
    rfl
  · obtain ⟨v, ⟨a, l, rfl, hS, h1, h100, rfl⟩, kQ⟩ := h
    obtain ⟨x, r, rfl⟩ : ∃ x r, l = x :: r := by
      cases l with
      | nil => simp at h1
      | cons x r => exact ⟨x, r, rfl⟩
    refine q_asg (evN (n := x) (m := 64) (ev_ixN (i := 0) (ev_var rfl) ev_n hS rfl) ev_c (by show 1 ≤ 64; decide)) fun H1 e1 => ?_
    refine q_forNLn (j := 2) (xs := vns r) (el_from (l := x :: r) (i := 1) (ev_var rfl) ev_n (ex_l e1 hS)) (fun p i σ H' => ∃ v2 : Option V, σ = [some (.ref a), some (vn (fold7 (x % 64) (r.take i))), v2] ∧ Evl.Ex H H' ∧ H' p = some (.lst (vns r)))
      (fun p H2 _ e2 h2 => ⟨none, rfl, e1.trans e2, h2⟩) (fun p i σ H' _ ⟨_, _, _, hp⟩ => sq_of hp) ?_ ?_
    · rintro p i y σ H' hi ⟨v2, rfl, eH, hp⟩
      obtain ⟨n, hn, rfl⟩ := vns_get hi
      refine s_asg (evN (n := fold7 (x % 64) (r.take i) * 128) (m := n) (evN (n := fold7 (x % 64) (r.take i)) (m := 128) (ev_var rfl) ev_n (by show 128 ≤ 4294967296; decide)) (ev_var rfl) trivial) fun H2 e2 => ?_
      refine ⟨some (vn n), ?_, eH.trans e2, e2 _ _ hp⟩
      have : fold7 (x % 64) (r.take (i + 1)) = fold7 (x % 64) (r.take i) * 128 + n := by
        rw [take_more hn]
        unfold fold7
        rw [List.foldl_append]
        rfl
      rw [this]
      rfl
    · rintro p σ H' ⟨v2, rfl, eH, hp⟩
      rw [vns_length, List.take_length]
      exact s_ret (ev_var rfl) fun H2 e2 => kQ H2 (eH.trans e2)
end

/-! ### the lines in the heap -/
def PRel (l : CdKeys.Line) (start : Nat) (pk : Cd.Bytes) : Prop := (l.part = none ∧ pk = []) ∨ (l.part = some (start, pk) ∧ ∃ x r, pk = x :: r ∧ r.length ≤ 5 ∧ 128 ≤ x.toNat ∧ ∀ y ∈ r, y.toNat < 128)
def plF (bA : Addr) (place start : Nat) (pA : Addr) : List (Str × V) := [("board", .ref bA), ("place", vn place), ("start", vn start), ("packet", .ref pA)]
structure PlainAt (CP : Addr) (H : Hp) (a : Addr) (l : CdKeys.Line) (bA dx pA : Addr) (start : Nat) (pk : Cd.Bytes) : Prop where
  ob : H a = some (.ins CP dx (plF bA l.place start pA))
  ls : H pA = some (.lst (vns (tN pk)))
  rel : PRel l start pk
def awV : Option Nat → V
  | none => .non
  | some n => vn n
def nlF (bA : Addr) (place start : Nat) (bV : V) (esc : Bool) (aV : V) : List (Str × V) := [("board", .ref bA), ("place", vn place), ("start", vn start), ("body", bV), ("escaped", .bl esc), ("awaited", aV)]
structure NumAt (CM : Addr) (H : Hp) (a : Addr) (l : CdKeys.Line) (bA dx : Addr) (start : Nat) (L : List Addr) : Prop where
  at_ : (l.part = none ∧ l.turn = false ∧ L = [a] ∧ H a = some (.ins CM dx (nlF bA l.place start .non false (awV l.next)))) ∨
    ∃ pA b, l.part = some (start, b) ∧ b.length ≤ 13 ∧ L = [a, pA] ∧ H a = some (.ins CM dx (nlF bA l.place start (.ref pA) l.turn (awV l.next))) ∧ H pA = some (.lst (vns (tN b)))
  nx : ∀ v, l.next = some v → v < 256
def LineAt (CP CM : Addr) (H : Hp) (a : Addr) : Nat → CdKeys.Line → Addr → List Addr → Prop
  | 0, l, bA, L => ∃ dx pA start pk, L = [a, pA] ∧ PlainAt CP H a l bA dx pA start pk
  | _ + 1, l, bA, L => ∃ dx start, NumAt CM H a l bA dx start L
def LineDoes (CP CM : Addr) (H : Hp) (a bA : Addr) (which : Nat) (L : List Addr) (x : List CdKeys.Got × CdKeys.Line) (Q : VK) : Prop :=
  ∀ (H' : Hp) (r : Addr) (L' : List Addr), Fr L H H' → (∀ b ∈ L', b ∈ L ∨ H b = none) → LineAt CP CM H' a which x.2 bA L' → H' r = some (.lst (vns (gots x.1))) → Q (.ref r) H'
section
variable {CP CM CB : Addr} {H H' : Hp} {a bA : Addr} {which : Nat} {l : CdKeys.Line} {L S T : List Addr}
theorem LineAt.fr (f : Fr T H H') (h : LineAt CP CM H a which l bA L) (n : ∀ b ∈ L, b ∉ T) : LineAt CP CM H' a which l bA L := by
  cases which with
  | zero =>
    obtain ⟨dx, pA, start, pk, rfl, h⟩ := h
    exact ⟨dx, pA, start, pk, rfl, f _ _ h.ob (n _ (by simp)), f _ _ h.ls (n _ (by simp)), h.rel⟩
  | succ k =>
    obtain ⟨dx, start, h, nx⟩ := h
    refine ⟨dx, start, ?_, nx⟩
    rcases h with ⟨h1, h0, rfl, h2⟩ | ⟨pA, b, h1, h2, rfl, h3, h4⟩
    · exact Or.inl ⟨h1, h0, rfl, f _ _ h2 (n _ (by simp))⟩
    · exact Or.inr ⟨pA, b, h1, h2, rfl, f _ _ h3 (n _ (by simp)), f _ _ h4 (n _ (by simp))⟩
theorem LineAt.ex (e : Evl.Ex H H') (h : LineAt CP CM H a which l bA L) : LineAt CP CM H' a which l bA L := h.fr (T := []) (Fr.of e) (fun _ _ => by simp)
/-- what's at a line's own addresses -/
theorem LineAt.kinds (h : LineAt CP CM H a which l bA L) : ∀ b ∈ L, (∃ dx fs, b = a ∧ (H b = some (.ins CP dx fs) ∨ H b = some (.ins CM dx fs))) ∨ ∃ xs, H b = some (.lst xs) := by
  cases which with
  | zero =>
    obtain ⟨dx, pA, start, pk, rfl, h⟩ := h
    intro b hb
    simp only [List.mem_cons, List.not_mem_nil, or_false] at hb
    rcases hb with rfl | rfl
    · exact Or.inl ⟨_, _, rfl, Or.inl h.ob⟩
    · exact Or.inr ⟨_, h.ls⟩
  | succ k =>
    obtain ⟨dx, start, h, nx⟩ := h
    rcases h with ⟨h1, h0, rfl, h2⟩ | ⟨pA, b, h1, h2, rfl, h3, h4⟩
    · intro b hb
      rw [List.mem_singleton] at hb
      subst hb
      exact Or.inl ⟨_, _, rfl, Or.inr h2⟩
    · intro b hb
      simp only [List.mem_cons, List.not_mem_nil, or_false] at hb
      rcases hb with rfl | rfl
      · exact Or.inl ⟨_, _, rfl, Or.inr h3⟩
      · exact Or.inr ⟨_, h4⟩
theorem LineAt.known (h : LineAt CP CM H a which l bA L) : ∀ b ∈ L, H b ≠ none := fun b hb => by
  rcases h.kinds b hb with ⟨dx, fs, _, q | q⟩ | ⟨xs, q⟩ <;> (rw [q]; simp)
/-- what a board is stays where nothing of its own changes -/
theorem RowsAt.go (go : ∀ x xs, H x = some (.lst xs) → x ∈ S → H' x = some (.lst xs)) : ∀ {as : List Addr} {r : List (List Nat)}, RowsAt H as r → (∀ b ∈ as, b ∈ S) → RowsAt H' as r
  | [], [], _, _ => trivial
  | x :: xs, _ :: _, ⟨h, t⟩, n => ⟨go _ _ h (n x List.mem_cons_self), t.go go fun b hb => n b (List.mem_cons_of_mem _ hb)⟩
  | [], _ :: _, h, _ => h.elim
  | _ :: _, [], h, _ => h.elim
theorem BoardAt.fr {T : List Addr} {bA bdx lA dA : Addr} {k : Kb} {bs : List Addr} (f : Fr T H H') (h : BoardAt CB H bA k bdx lA dA bs) (n1 : bA ∉ T) (n2 : lA ∉ T) (n3 : dA ∉ T) (n4 : ∀ b ∈ bs, b ∉ T) : BoardAt CB H' bA k bdx lA dA bs :=
  ⟨f _ _ h.ob n1, f _ _ h.ls n2, h.rows.go (S := bs) (fun x xs hx hm => f _ _ hx (n4 x hm)) (fun b hb => hb), f _ _ h.ds n3, h.ok⟩
/-- a board that a line doesn't touch -/
def BdOut (CB : Addr) (H : Hp) (bA : Addr) (k : Kb) (L : List Addr) : Prop := ∃ bdx lA dA bs, BoardAt CB H bA k bdx lA dA bs ∧ ∀ b ∈ L, b ∉ bA :: lA :: dA :: bs
theorem BdOut.fr {k : Kb} (f : Fr L H H') (h : BdOut CB H bA k L) : BdOut CB H' bA k L := by
  obtain ⟨bdx, lA, dA, bs, h, n⟩ := h
  refine ⟨bdx, lA, dA, bs, h.fr f (fun z => n _ z (by simp)) (fun z => n _ z (by simp)) (fun z => n _ z (by simp)) (fun b hb z => n _ z (by simp [hb])), n⟩
theorem BdOut.is {k : Kb} (h : BdOut CB H bA k L) : IsBoard CB H bA k := by
  obtain ⟨bdx, lA, dA, bs, h, n⟩ := h
  exact ⟨bdx, lA, dA, bs, h⟩
theorem BdOut.ex {k : Kb} (e : Evl.Ex H H') (h : BdOut CB H bA k L) : BdOut CB H' bA k L := h.fr (Fr.of e)
end
end Kx

-- KPlain
/-! The plain line. -/
namespace Kx
open PySem PySem.Spec PyProof.Rows L2 Evl

section
variable {P : Program} {w : World} {K : PySem.W.Frag} {mg : Str → Option Value} {base : Heap} {CBoard CNumberedLine CStrokes CNews CPart CPlainLine CHall : Addr}
/-! ### __init__ -/
def spLineInit (C CP CM : Addr) (which : Nat) : Sp := fun vs H Q _ => ∃ (a dx bA : Addr), vs = [.ref a, .ref bA] ∧ H a = some (.ins C dx []) ∧
  ∀ (H' : Hp) (L : List Addr), Fr [a] H H' → (∀ b ∈ L, b = a ∨ H b = none) → LineAt CP CM H' a which CdKeys.fresh bA L → Q .non H'
theorem scPlainLineInit : FnScope ["self", "board"] ["self", "board"] (defScope tPlainLineInit) := ⟨rfl, rfl, rfl, by decide +kernel, rfl, by decide +kernel, by decide +kernel⟩
theorem ok_PlainLine_init {f : Addr} {fd : FuncData} (D : Fun K "__init__" "PlainLine.__init__" tPlainLineInit f fd) (T : Tx K mg CBoard CNumberedLine CStrokes CNews CPart CPlainLine CHall) : FnOk P w K mg base CX0 1 f fd ["self", "board"] (spLineInit CPlainLine CPlainLine CNumberedLine 0) := by
  refine D.ok scPlainLineInit (fun vs H Q E h => ?_) (fun cdv A outer s H vs Q E hr h => ⟨_,
    (pss_cons (ps_fld (pv 0) (pv 1) rfl)
      (pss_cons (ps_fld (pv 0) pe_n rfl)
      (pss_cons (ps_fld (pv 0) pe_n rfl)
      (pss_one (ps_fld (pv 0) (pe_lst pa_nil) rfl))))), ?_⟩)
  · obtain ⟨a, dx, bA, rfl, _⟩ := h
    rfl
  · obtain ⟨a, dx, bA, rfl, ho, k⟩ := h
    have fa : ∀ (H : Hp) (o : HO), Fr [a] H (upd H a o) := fun H o => Fr.upd (by simp)
    refine q_fld (ev_var rfl) (ev_var rfl) ho T.c_PlainLine T.n_PlainLine_board (by show 0 < 1000; decide) fun H1 e1 => ?_
    refine q_fld ev_n (ev_var rfl) upd_same T.c_PlainLine T.n_PlainLine_place (by show 1 < 1000; decide) fun H2 e2 => ?_
    refine q_fld ev_n (ev_var rfl) upd_same T.c_PlainLine T.n_PlainLine_start (by show 2 < 1000; decide) fun H3 e3 => ?_
    have f3 : Fr [a] H (upd H3 a (.ins CPlainLine dx (putF "start" (vn 0) (putF "place" (vn 0) (putF "board" (.ref bA) []))))) := ((((Fr.of e1).trans (fa _ _)).trans (Fr.of e2)).trans (fa _ _)).trans ((Fr.of e3).trans (fa _ _))
    have o3 : upd H3 a (.ins CPlainLine dx (putF "start" (vn 0) (putF "place" (vn 0) (putF "board" (.ref bA) [])))) a = some (.ins CPlainLine dx [("board", .ref bA), ("place", vn 0), ("start", vn 0)]) := upd_same
    generalize upd H3 a (.ins CPlainLine dx (putF "start" (vn 0) (putF "place" (vn 0) (putF "board" (.ref bA) [])))) = K3 at f3 o3
    refine s_fldL (el_lst ea_nil few) (fun _ _ => ev_var rfl) o3 T.c_PlainLine T.n_PlainLine_packet (by show 3 < 1000; decide) fun pA H4 hp e4 h4 => ?_
    have na : pA ≠ a := (ne_of_none o3 hp).symm
    refine k _ [a, pA] ((f3.trans (Fr.of e4)).trans (fa _ _)) (fun b hb => ?_) ⟨dx, pA, 0, [], rfl, upd_same, (upd_ne na).trans h4, Or.inl ⟨rfl, rfl⟩⟩
    simp only [List.mem_cons, List.not_mem_nil, or_false] at hb
    rcases hb with rfl | rfl
    · exact Or.inl rfl
    · exact Or.inr (f3.free hp (by simpa using na))

/-! ### judge -/
def judgeP (size start : Nat) (pk : Cd.Bytes) : CdKeys.Got := if CdKeys.packetRight pk = false then .fault 3 start else if (decide (1 ≤ CdKeys.packetChord pk) && decide (CdKeys.packetChord pk < 2 ^ size)) = true then .chord (CdKeys.packetChord pk) 0 0 else .fault 4 start
def spJudge (CP CB : Addr) : Sp := fun vs H Q _ => ∃ (a pA dx bA pA' place start : Nat) (x : UInt8) (r : Cd.Bytes) (k : Kb), vs = [.ref a, .ref pA] ∧ H a = some (.ins CP dx (plF bA place start pA')) ∧ H pA = some (.lst (vns (tN (x :: r)))) ∧ r.length = 6 ∧ 128 ≤ x.toNat ∧ (∀ y ∈ r, y.toNat < 128) ∧ IsBoard CB H bA k ∧
  RetL (vns (gots [judgeP k.size start (x :: r)])) H Q
theorem scPlainLineJudge : FnScope ["self", "packet", "chord"] ["self", "packet"] (defScope tPlainLineJudge) := ⟨rfl, rfl, rfl, by decide +kernel, rfl, by decide +kernel, by decide +kernel⟩
theorem ok_PlainLine_judge {f f1 f2 f3 f4 f5 : Addr} {fd fd1 fd2 fd3 fd4 fd5 : FuncData} (D : RawM K CPlainLine "judge" "PlainLine.judge" tPlainLineJudge f fd) (T : Tx K mg CBoard CNumberedLine CStrokes CNews CPart CPlainLine CHall)
    (G_chord_of_packets : Ok P w K mg base 1 "chord_of_packets" ["packet"] (spChordOfP K) f1 fd1) (G_first_byte : Ok P w K mg base 1 "first_byte" ["chord"] spFirstByte f2 fd2) (G_fault_told : Ok P w K mg base 1 "fault_told" ["kind", "place"] spFaultTold f3 fd3)
    (G_Board_owns : OkM P w K mg base 2 CBoard "owns" ["self", "chord"] (spOwns CBoard) f4 fd4) (G_chord_told : Ok P w K mg base 1 "chord_told" ["chord", "ticks", "lost"] spChordTold f5 fd5) :
    OkM P w K mg base 3 CPlainLine "judge" ["self", "packet"] (spJudge CPlainLine CBoard) f fd := by
  refine ⟨D.fn.ok scPlainLineJudge (fun vs H Q E h => ?_) (fun cdv A outer s H vs Q E hr h => ⟨_,
    (pss_cons (ps_set (i := 2) scPlainLineJudge.nd rfl (Or.inl rfl) (pe_own G_chord_of_packets hr (pa_cons (pv 1) pa_nil)))
      (pss_cons (ps_if (pt_cmpR on_ne (pe_ix ix_list (pv 1) pe_n (fun _ _ => rfl)) (pe_own G_first_byte hr (pa_cons (pv 2) pa_nil)) (nomark _)) (pss_one (ps_ret (pe_own G_fault_told hr (pa_cons (pe_gi T.g_WRONG_ODDNESS) (pa_cons (pe_fld (pv 0) rfl) pa_nil))))) pss_nil)
      (pss_cons (ps_if (pt_not (pt_val (pe_ownM G_Board_owns T.c_Board hr (pe_fld (pv 0) rfl) (pa_cons (pv 2) pa_nil)))) (pss_one (ps_ret (pe_own G_fault_told hr (pa_cons (pe_gi T.g_NO_CHORD_packets) (pa_cons (pe_fld (pv 0) rfl) pa_nil))))) pss_nil)
      (pss_one (ps_ret (pe_own G_chord_told hr (pa_cons (pv 2) (pa_cons pe_n (pa_cons pe_n pa_nil))))))))), ?_⟩), D.at_, D.fn.binds fun _ _ _ _ _ _ us hl => match us, hl with | [_, _], _ => rfl⟩
  · obtain ⟨a, pA, dx, bA, pA', place, start, x, r, k, rfl, _⟩ := h
    rfl
  · obtain ⟨a, pA, dx, bA, pA', place, start, x, r, k, rfl, ho, hl, h6, hx, hr6, hB, kQ⟩ := h
    have tl : (tN (x :: r)).length = 7 := by
      rw [tN_length, List.length_cons, h6]
    have pr := packet_right hx hr6 h6
    have pc := packet_chord (x :: r) hr6
    unfold judgeP at kQ
    rw [pr, pc] at kQ
    refine q_asg (v := vn (pChord (tN (x :: r)))) (ev_call (ea_cons (ev_var rfl) ea_nil) (spV_is fun H' e' => ⟨pA, _, rfl, sq_of (e' _ _ hl), by omega, by omega, rfl⟩)) fun H1 e1 => ?_
    generalize pChord (tN (x :: r)) = c at kQ
    refine q_when (etN (g := fun n m => !decide (n = m)) (n := x.toNat) (m := firstB c) (ev_ixN (l := tN (x :: r)) (i := 0) (ev_var rfl) ev_n (sq_of (e1 _ _ hl)) rfl) (ev_call (ea_cons (ev_var rfl) ea_nil) (spV_is fun H' e' => ⟨c, rfl, rfl⟩)) trivial) (fun b1 H2 e2 => ?_) (fun b1 H2 e2 => ?_)
    · have nb : decide (x.toNat = firstB c) = false := by simpa using b1
      rw [if_pos nb] at kQ
      refine s_retL (el_call (ea_cons ev_c (ea_cons (ev_fld (ev_var rfl) ((e1.trans e2) _ _ ho) T.c_PlainLine T.n_PlainLine_start (v := vn start) rfl) ea_nil)) (spL_is fun H' e' => ⟨3, start, rfl, rfl⟩)) fun q H3 hq e3 h3 => ?_
      exact kQ q H3 (fresh_back (e1.trans e2) hq) ((e1.trans e2).trans e3) h3
    · have yb : decide (x.toNat = firstB c) = true := by simpa using b1
      rw [if_neg (by rw [yb]; decide)] at kQ
      have e02 := e1.trans e2
      obtain ⟨bdx, lA, dA, as, hB'⟩ := id hB
      refine q_when (et_not (et_B (b := decide (1 ≤ c) && decide (c < 2 ^ k.size)) (ev_meth (ev_fld (ev_var rfl) (e02 _ _ ho) T.c_PlainLine T.n_PlainLine_board (v := .ref bA) rfl) (e02 _ _ hB'.ob) rfl (ea_cons (ev_var rfl) ea_nil) (spV_is fun H' e' => ⟨bA, k, c, rfl, hB.ex (e02.trans e'), rfl⟩)))) (fun b2 H3 e3 => ?_) (fun b2 H3 e3 => ?_)
      · have nb : ¬ (decide (1 ≤ c) && decide (c < 2 ^ k.size)) = true := by
          intro z
          rw [z] at b2
          cases b2
        rw [if_neg nb] at kQ
        refine s_retL (el_call (ea_cons ev_c (ea_cons (ev_fld (ev_var rfl) ((e02.trans e3) _ _ ho) T.c_PlainLine T.n_PlainLine_start (v := vn start) rfl) ea_nil)) (spL_is fun H' e' => ⟨4, start, rfl, rfl⟩)) fun q H4 hq e4 h4 => ?_
        exact kQ q H4 (fresh_back (e02.trans e3) hq) ((e02.trans e3).trans e4) h4
      · have yb2 : (decide (1 ≤ c) && decide (c < 2 ^ k.size)) = true := by
          cases z : (decide (1 ≤ c) && decide (c < 2 ^ k.size))
          · rw [z] at b2
            cases b2
          · rfl
        rw [if_pos yb2] at kQ
        refine s_retL (el_call (ea_cons (ev_var rfl) (ea_cons ev_n (ea_cons ev_n ea_nil))) (spL_is fun H' e' => ⟨c, 0, 0, rfl, rfl⟩)) fun q H4 hq e4 h4 => ?_
        exact kQ q H4 (fresh_back (e02.trans e3) hq) ((e02.trans e3).trans e4) h4

/-! ### receive -/
def spReceive (CP CM CB : Addr) (ok : Nat → Prop) : Sp := fun vs H Q _ => ∃ (a bA which : Nat) (x : UInt8) (l : CdKeys.Line) (k : Kb) (L : List Addr), vs = [.ref a, vn x.toNat] ∧ ok which ∧ LineAt CP CM H a which l bA L ∧ BdOut CB H bA k L ∧ LineDoes CP CM H a bA which L (lineStep k.size which l x) Q
def foundP : Option (Nat × Cd.Bytes) → List CdKeys.Got
  | some (p, _) => [.fault 2 p]
  | none => []
theorem plain_first {size : Nat} {l : CdKeys.Line} {x : UInt8} (h : 128 ≤ x.toNat) : lineStep size 0 l x = (foundP l.part, { l with place := l.place + 1, part := some (l.place, [x]) }) := by
  unfold lineStep CdKeys.plain
  rw [if_pos rfl, if_pos h]
  cases l.part <;> rfl
theorem plain_stray {size : Nat} {l : CdKeys.Line} {x : UInt8} (h : ¬ 128 ≤ x.toNat) (hp : l.part = none) : lineStep size 0 l x = ([.fault 1 l.place], { l with place := l.place + 1 }) := by
  unfold lineStep CdKeys.plain
  rw [if_pos rfl, if_neg h, hp]
theorem plain_more {size start : Nat} {l : CdKeys.Line} {x : UInt8} {b : Cd.Bytes} (h : ¬ 128 ≤ x.toNat) (hp : l.part = some (start, b)) (hl : (b ++ [x]).length < 7) : lineStep size 0 l x = ([], { l with place := l.place + 1, part := some (start, b ++ [x]) }) := by
  unfold lineStep CdKeys.plain
  rw [if_pos rfl, if_neg h, hp]
  dsimp only
  rw [if_pos hl]
theorem plain_whole {size start : Nat} {l : CdKeys.Line} {x : UInt8} {b : Cd.Bytes} (h : ¬ 128 ≤ x.toNat) (hp : l.part = some (start, b)) (hl : ¬ (b ++ [x]).length < 7) : lineStep size 0 l x = ([judgeP size start (b ++ [x])], { l with place := l.place + 1, part := none }) := by
  unfold lineStep CdKeys.plain
  rw [if_pos rfl, if_neg h, hp]
  dsimp only
  rw [if_neg hl]
  rfl
theorem tN_empty (pk : Cd.Bytes) : (dInts (tN pk)).isEmpty = decide (pk = []) := by
  cases pk <;> rfl
theorem scPlainLineReceive : FnScope ["self", "byte", "place", "found", "packet"] ["self", "byte"] (defScope tPlainLineReceive) := ⟨rfl, rfl, rfl, by decide +kernel, rfl, by decide +kernel, by decide +kernel⟩
theorem ok_PlainLine_receive {f f1 f2 : Addr} {fd fd1 fd2 : FuncData} (D : RawM K CPlainLine "receive" "PlainLine.receive" tPlainLineReceive f fd) (T : Tx K mg CBoard CNumberedLine CStrokes CNews CPart CPlainLine CHall)
    (G_fault_told : Ok P w K mg base 1 "fault_told" ["kind", "place"] spFaultTold f1 fd1) (G_PlainLine_judge : OkM P w K mg base 3 CPlainLine "judge" ["self", "packet"] (spJudge CPlainLine CBoard) f2 fd2) :
    OkM P w K mg base 4 CPlainLine "receive" ["self", "byte"] (spReceive CPlainLine CNumberedLine CBoard (fun n => n = 0)) f fd := by
  refine ⟨D.fn.ok scPlainLineReceive (fun vs H Q E h => ?_) (fun cdv A outer s H vs Q E hr h => ⟨_,
    (pss_cons (ps_set (i := 2) scPlainLineReceive.nd rfl (Or.inl rfl) (pe_fld (pv 0) rfl))
      (pss_cons (ps_fldaug (pv 0) pe_n in_add)
      (pss_cons (ps_if (pt_cmpR on_ge (pv 1) (pe_gi T.g_FIRST_MARK) (nomark _)) (pss_cons (ps_set (i := 3) scPlainLineReceive.nd rfl (Or.inl rfl) (pe_ifExp (pt_cmpR (op_eqD hr.units) (pe_fld (pv 0) rfl) (pe_lst pa_nil) (nomark _)) (pe_lst pa_nil) (pe_own G_fault_told hr (pa_cons (pe_gi T.g_CUT_OFF_packets) (pa_cons (pe_fld (pv 0) rfl) pa_nil)))))
      (pss_cons (ps_fld (pv 0) (pv 2) rfl)
      (pss_cons (ps_fld (pv 0) (pe_lst (pa_cons (pv 1) pa_nil)) rfl)
      (pss_one (ps_ret (pv 3)))))) pss_nil)
      (pss_cons (ps_if (pt_cmpR (op_eqD hr.units) (pe_fld (pv 0) rfl) (pe_lst pa_nil) (nomark _)) (pss_one (ps_ret (pe_own G_fault_told hr (pa_cons (pe_gi T.g_STRAY_packets) (pa_cons (pv 2) pa_nil))))) pss_nil)
      (pss_cons (ps_expr (pe_bm PySem.F.plainAttrs_list PySem.F.slot_list_append PySem.F.type_list_append mt_append (pe_fld (pv 0) rfl) (pa_cons (pv 1) pa_nil)))
      (pss_cons (ps_if (pt_cmpR on_lt (pe_callB call_len_seq (by rfl) T.b_len PySem.boot_len (pa_cons (pe_fld (pv 0) rfl) pa_nil)) (pe_gi T.g_PACKET_LENGTH) (nomark _)) (pss_one (ps_ret (pe_lst pa_nil))) pss_nil)
      (pss_cons (ps_set (i := 4) scPlainLineReceive.nd rfl (Or.inl rfl) (pe_fld (pv 0) rfl))
      (pss_cons (ps_fld (pv 0) (pe_lst pa_nil) rfl)
      (pss_one (ps_ret (pe_ownM G_PlainLine_judge T.c_PlainLine hr (pv 0) (pa_cons (pv 4) pa_nil)))))))))))), ?_⟩), D.at_, D.fn.binds fun _ _ _ _ _ _ us hl => match us, hl with | [_, _], _ => rfl⟩
  · obtain ⟨a, bA, which, x, l, k, L, rfl, _⟩ := h
    rfl
  · obtain ⟨a, bA, which, x, l, k, L, rfl, rfl, hL, hB, kQ⟩ := h
    obtain ⟨dx, pA, start, pk, rfl, hP⟩ := hL
    have fa : ∀ (H : Hp) (o : HO), Fr [a, pA] H (upd H a o) := fun H o => Fr.upd (by simp)
    have fp : ∀ (H : Hp) (o : HO), Fr [a, pA] H (upd H pA o) := fun H o => Fr.upd (by simp)
    have pa : pA ≠ a := ne_lst_ins hP.ls hP.ob
    have aH : H a ≠ none := by
      rw [hP.ob]
      simp
    have same : ∀ b ∈ [a, pA], b ∈ [a, pA] ∨ H b = none := fun b hb => Or.inl hb
    refine q_asg (v := vn l.place) (ev_fld (ev_var rfl) hP.ob T.c_PlainLine T.n_PlainLine_place rfl) fun H1 e1 => ?_
    refine q_fldaug (n := l.place) (m := 1) (ev_var rfl) ev_n (e1 _ _ hP.ob) T.c_PlainLine T.n_PlainLine_place rfl (by show 4 < 1000; decide) fun H2 e2 => ?_
    have o2 : upd H2 a (.ins CPlainLine dx (putF "place" (vn (l.place + 1)) (plF bA l.place start pA))) a = some (.ins CPlainLine dx (plF bA (l.place + 1) start pA)) := upd_same
    have l2 : upd H2 a (.ins CPlainLine dx (putF "place" (vn (l.place + 1)) (plF bA l.place start pA))) pA = some (.lst (vns (tN pk))) := (upd_ne pa).trans ((e1.trans e2) _ _ hP.ls)
    have f2 : Fr [a, pA] H (upd H2 a (.ins CPlainLine dx (putF "place" (vn (l.place + 1)) (plF bA l.place start pA)))) := (Fr.of (e1.trans e2)).trans (fa _ _)
    generalize upd H2 a (.ins CPlainLine dx (putF "place" (vn (l.place + 1)) (plF bA l.place start pA))) = K2 at o2 l2 f2
    refine q_when (etN (g := fun n m => decide (m ≤ n)) (n := x.toNat) (m := 128) (ev_var rfl) ev_c trivial) (fun b1 H3 e3 => ?_) (fun b1 H3 e3 => ?_)
    · -- a first byte
      have ge : 128 ≤ x.toNat := of_decide_eq_true b1
      rw [plain_first ge] at kQ
      have fld : ∀ {H' : Hp}, Evl.Ex K2 H' → Ev (tFld K (tVar 0) "packet") [some (.ref a), some (vn x.toNat), some (vn l.place), none, none] H' (.ref pA) := fun e => ev_fld (ev_var rfl) (e _ _ o2) T.c_PlainLine T.n_PlainLine_packet rfl
      refine q_asgL (xs := vns (gots (foundP l.part))) (el_if (c := decide (pk = [])) (et_is (et_test (ev_eqNil (fld e3) (sq_of (e3 _ _ l2)) (fun _ _ => dpAll_vns _) (shaped_ints _))) (tN_empty pk)) (fun c => ?_) (fun c => ?_)) fun r H4 hr e4 h4 => ?_
      · rcases hP.rel with ⟨h1, _⟩ | ⟨_, y, t, h2, _⟩
        · rw [h1]
          exact el_lst ea_nil few
        · rw [h2] at c
          cases c
      · rcases hP.rel with ⟨_, h2⟩ | ⟨h1, _⟩
        · rw [h2] at c
          cases c
        · rw [h1]
          exact el_call (ea_cons ev_c (ea_cons (ev_fld (ev_var rfl) (e3 _ _ o2) T.c_PlainLine T.n_PlainLine_start (v := vn start) rfl) ea_nil)) (spL_is fun H' e' => ⟨2, start, rfl, rfl⟩)
      · have e24 := e3.trans e4
        have ra : r ≠ a := (ne_of_none (e3 _ _ o2) hr).symm
        refine q_fld (ev_var rfl) (ev_var rfl) (e24 _ _ o2) T.c_PlainLine T.n_PlainLine_start (by show 4 < 1000; decide) fun H5 e5 => ?_
        have o5 : upd H5 a (.ins CPlainLine dx (putF "start" (vn l.place) (plF bA (l.place + 1) start pA))) a = some (.ins CPlainLine dx (plF bA (l.place + 1) l.place pA)) := upd_same
        have r5 : upd H5 a (.ins CPlainLine dx (putF "start" (vn l.place) (plF bA (l.place + 1) start pA))) r = some (.lst (vns (gots (foundP l.part)))) := (upd_ne ra).trans (e5 _ _ h4)
        have f5 : Fr [a, pA] H (upd H5 a (.ins CPlainLine dx (putF "start" (vn l.place) (plF bA (l.place + 1) start pA)))) := (f2.trans (Fr.of (e24.trans e5))).trans (fa _ _)
        generalize upd H5 a (.ins CPlainLine dx (putF "start" (vn l.place) (plF bA (l.place + 1) start pA))) = K5 at o5 r5 f5
        refine q_fldL (el_lst (ea_cons (ev_var rfl) ea_nil) few) (fun _ _ => ev_var rfl) o5 T.c_PlainLine T.n_PlainLine_packet (by show 4 < 1000; decide) fun p2 H6 hp2 e6 h6 => ?_
        have pa2 : p2 ≠ a := (ne_of_none o5 hp2).symm
        refine s_ret (ev_var rfl) fun H7 e7 => ?_
        refine kQ H7 r [a, p2] (((f5.trans (Fr.of e6)).trans (fa _ _)).trans (Fr.of e7)) (fun b hb => ?_) ⟨dx, p2, l.place, [x], rfl, ?_, ?_, Or.inr ⟨rfl, x, [], rfl, Nat.zero_le _, ge, fun y hy => (by cases hy)⟩⟩ (e7 _ _ ((upd_ne ra).trans (e6 _ _ r5)))
        · simp only [List.mem_cons, List.not_mem_nil, or_false] at hb
          rcases hb with rfl | rfl
          · exact Or.inl (by simp)
          · by_cases z : b = pA
            · exact Or.inl (by simp [z])
            · exact Or.inr (f5.free hp2 (by simp [pa2, z]))
        · exact e7 _ _ upd_same
        · exact e7 _ _ ((upd_ne pa2).trans h6)
    · have lt : ¬ 128 ≤ x.toNat := of_decide_eq_false b1
      have fld : ∀ {H' : Hp}, Evl.Ex K2 H' → Ev (tFld K (tVar 0) "packet") [some (.ref a), some (vn x.toNat), some (vn l.place), none, none] H' (.ref pA) := fun e => ev_fld (ev_var rfl) (e _ _ o2) T.c_PlainLine T.n_PlainLine_packet rfl
      rcases hP.rel with ⟨h1, h2⟩ | ⟨h1, y, t, h2, ht, hy, hyt⟩
      · rw [plain_stray lt h1] at kQ
        subst h2
        refine q_when (b := true) (et_is (et_test (ev_eqNil (fld e3) (sq_of (e3 _ _ l2)) (fun _ _ => dpAll_vns _) (shaped_ints _))) rfl) (fun _ H4 e4 => ?_) (fun z _ _ => by cases z)
        refine s_retL (el_call (ea_cons ev_c (ea_cons (ev_var rfl) ea_nil)) (spL_is fun H' e' => ⟨1, l.place, rfl, rfl⟩)) fun r H5 hr e5 h5 => ?_
        have e := (e3.trans e4).trans e5
        exact kQ H5 r [a, pA] (f2.trans (Fr.of e)) same ⟨dx, pA, start, [], rfl, e _ _ o2, e _ _ l2, Or.inl ⟨h1, rfl⟩⟩ h5
      · refine q_when (b := false) (et_is (et_test (ev_eqNil (fld e3) (sq_of (e3 _ _ l2)) (fun _ _ => dpAll_vns _) (shaped_ints _))) (by rw [h2]; rfl)) (fun z _ _ => by cases z) (fun _ H4 e4 => ?_)
        have e24 := e3.trans e4
        have pkl : (tN pk).length = t.length + 1 := by
          rw [tN_length, h2]
          rfl
        refine q_app (e24 _ _ l2) (fld e24) (ev_var rfl) (by rw [vns_length]; omega) fun H5 e5 => ?_
        have o5 : upd H5 pA (.lst (vns (tN pk) ++ [vn x.toNat])) a = some (.ins CPlainLine dx (plF bA (l.place + 1) start pA)) := (upd_ne pa.symm).trans ((e24.trans e5) _ _ o2)
        have l5 : upd H5 pA (.lst (vns (tN pk) ++ [vn x.toNat])) pA = some (.lst (vns (tN (pk ++ [x])))) := upd_same.trans (by rw [tN_append, vns_append]; rfl)
        have f5 : Fr [a, pA] H (upd H5 pA (.lst (vns (tN pk) ++ [vn x.toNat]))) := (f2.trans (Fr.of (e24.trans e5))).trans (fp _ _)
        generalize upd H5 pA (.lst (vns (tN pk) ++ [vn x.toNat])) = K5 at o5 l5 f5
        have len : (tN (pk ++ [x])).length = t.length + 2 := by
          rw [tN_length, List.length_append, h2]
          rfl
        have len' : (pk ++ [x]).length = t.length + 2 := by rw [← len, tN_length]
        refine q_when (etN (g := fun n m => decide (n < m)) (n := t.length + 2) (m := 7) (ev_is (ev_lenN' (ev_fld (ev_var rfl) o5 T.c_PlainLine T.n_PlainLine_packet (v := .ref pA) rfl) (sq_of l5)) (by rw [len])) ev_c trivial) (fun b2 H6 e6 => ?_) (fun b2 H6 e6 => ?_)
        · have l7 := of_decide_eq_true b2
          rw [plain_more lt h1 (by omega)] at kQ
          refine s_retL (el_lst ea_nil few) fun r H7 hr e7 h7 => ?_
          have e := e6.trans e7
          refine kQ H7 r [a, pA] (f5.trans (Fr.of e)) same ⟨dx, pA, start, pk ++ [x], rfl, e _ _ o5, e _ _ l5, Or.inr ⟨rfl, y, t ++ [x], by rw [h2]; rfl, by rw [List.length_append]; show t.length + 1 ≤ 5; omega, hy, fun z hz => ?_⟩⟩ h7
          rcases List.mem_append.mp hz with q | q
          · exact hyt z q
          · rw [List.mem_singleton] at q
            rw [q]
            omega
        · have l7 := of_decide_eq_false b2
          rw [plain_whole lt h1 (by omega)] at kQ
          refine q_asg (ev_fld (ev_var rfl) (e6 _ _ o5) T.c_PlainLine T.n_PlainLine_packet (v := .ref pA) rfl) fun H7 e7 => ?_
          have e57 := e6.trans e7
          refine q_fldL (el_lst ea_nil few) (fun _ _ => ev_var rfl) (e57 _ _ o5) T.c_PlainLine T.n_PlainLine_packet (by show 4 < 1000; decide) fun p2 H8 hp2 e8 h8 => ?_
          have pa2 : p2 ≠ a := (ne_of_none (e57 _ _ o5) hp2).symm
          have o9 : upd H8 a (.ins CPlainLine dx (putF "packet" (.ref p2) (plF bA (l.place + 1) start pA))) a = some (.ins CPlainLine dx (plF bA (l.place + 1) start p2)) := upd_same
          have l9 : upd H8 a (.ins CPlainLine dx (putF "packet" (.ref p2) (plF bA (l.place + 1) start pA))) pA = some (.lst (vns (tN (pk ++ [x])))) := (upd_ne pa).trans ((e57.trans e8) _ _ l5)
          have m9 : upd H8 a (.ins CPlainLine dx (putF "packet" (.ref p2) (plF bA (l.place + 1) start pA))) p2 = some (.lst (vns (tN []))) := (upd_ne pa2).trans h8
          have f9 : Fr [a, pA] H (upd H8 a (.ins CPlainLine dx (putF "packet" (.ref p2) (plF bA (l.place + 1) start pA)))) := (f5.trans (Fr.of (e57.trans e8))).trans (fa _ _)
          have p2H : p2 ≠ pA := (ne_of_none (e57 _ _ l5) hp2).symm
          have p2n : H p2 = none := f5.free (fresh_back e57 hp2) (by simp [pa2, p2H])
          generalize upd H8 a (.ins CPlainLine dx (putF "packet" (.ref p2) (plF bA (l.place + 1) start pA))) = K9 at o9 l9 m9 f9
          refine v_callM (ev_var rfl) o9 rfl (vs := [.ref pA]) (fun _ _ => ea_cons (ev_var rfl) ea_nil) fun H10 e10 => ?_
          have pe : pk ++ [x] = y :: (t ++ [x]) := by rw [h2]; rfl
          refine ⟨a, pA, dx, bA, p2, l.place + 1, start, y, t ++ [x], k, rfl, e10 _ _ o9, (e10 _ _ l9).trans (by rw [pe]), by rw [List.length_append]; show t.length + 1 = 6; omega, hy, fun z hz => ?_, (hB.fr (f9.trans (Fr.of e10))).is, fun r H11 hr e11 h11 => ?_⟩
          · rcases List.mem_append.mp hz with q | q
            · exact hyt z q
            · rw [List.mem_singleton] at q
              rw [q]
              omega
          · have e := e10.trans e11
            refine kQ H11 r [a, p2] (f9.trans (Fr.of e)) (fun b hb => ?_) ⟨dx, p2, start, [], rfl, e _ _ o9, e _ _ m9, Or.inl ⟨rfl, rfl⟩⟩ (h11.trans (by rw [← pe]))
            simp only [List.mem_cons, List.not_mem_nil, or_false] at hb
            rcases hb with rfl | rfl
            · exact Or.inl (by simp)
            · exact Or.inr p2n
end
end Kx

-- KNum
/-! The numbered line. -/
namespace Kx
open PySem PySem.Spec PyProof.Rows L2 Evl

section
variable {P : Program} {w : World} {K : PySem.W.Frag} {mg : Str → Option Value} {base : Heap} {CBoard CNumberedLine CStrokes CNews CPart CPlainLine CHall : Addr}
/-! ### __init__ -/
theorem scNumberedLineInit : FnScope ["self", "board"] ["self", "board"] (defScope tNumberedLineInit) := ⟨rfl, rfl, rfl, by decide +kernel, rfl, by decide +kernel, by decide +kernel⟩
theorem ok_NumberedLine_init {f : Addr} {fd : FuncData} (D : Fun K "__init__" "NumberedLine.__init__" tNumberedLineInit f fd) (T : Tx K mg CBoard CNumberedLine CStrokes CNews CPart CPlainLine CHall) : FnOk P w K mg base CX0 1 f fd ["self", "board"] (spLineInit CNumberedLine CPlainLine CNumberedLine 1) := by
  refine D.ok scNumberedLineInit (fun vs H Q E h => ?_) (fun cdv A outer s H vs Q E hr h => ⟨_,
    (pss_cons (ps_fld (pv 0) (pv 1) rfl)
      (pss_cons (ps_fld (pv 0) pe_n rfl)
      (pss_cons (ps_fld (pv 0) pe_n rfl)
      (pss_cons (ps_fld (pv 0) pe_non rfl)
      (pss_cons (ps_fld (pv 0) pe_bl rfl)
      (pss_one (ps_fld (pv 0) pe_non rfl))))))), ?_⟩)
  · obtain ⟨a, dx, bA, rfl, _⟩ := h
    rfl
  · obtain ⟨a, dx, bA, rfl, ho, k⟩ := h
    have fa : ∀ (H : Hp) (o : HO), Fr [a] H (upd H a o) := fun H o => Fr.upd (by simp)
    refine q_fld (ev_var rfl) (ev_var rfl) ho T.c_NumberedLine T.n_NumberedLine_board (by show 0 < 1000; decide) fun H1 e1 => ?_
    refine q_fld ev_n (ev_var rfl) upd_same T.c_NumberedLine T.n_NumberedLine_place (by show 1 < 1000; decide) fun H2 e2 => ?_
    refine q_fld ev_n (ev_var rfl) upd_same T.c_NumberedLine T.n_NumberedLine_start (by show 2 < 1000; decide) fun H3 e3 => ?_
    refine q_fld ev_c (ev_var rfl) upd_same T.c_NumberedLine T.n_NumberedLine_body (by show 3 < 1000; decide) fun H4 e4 => ?_
    refine q_fld (y := .bl false) ev_c (ev_var rfl) upd_same T.c_NumberedLine T.n_NumberedLine_escaped (by show 4 < 1000; decide) fun H5 e5 => ?_
    refine s_fld ev_c (ev_var rfl) upd_same T.c_NumberedLine T.n_NumberedLine_awaited (by show 5 < 1000; decide) fun H6 e6 => ?_
    refine k _ [a] ?_ (fun b hb => Or.inl (by simpa using hb)) ⟨dx, 0, Or.inl ⟨rfl, rfl, rfl, upd_same⟩, fun v z => (by cases z)⟩
    exact ((((((((((Fr.of e1).trans (fa _ _)).trans (Fr.of e2)).trans (fa _ _)).trans (Fr.of e3)).trans (fa _ _)).trans (Fr.of e4)).trans (fa _ _)).trans (Fr.of e5)).trans (fa _ _)).trans ((Fr.of e6).trans (fa _ _))

/-! ### enter, leave -/
def spEnter (CM : Addr) : Sp := fun vs H Q _ => ∃ (a dx bA pl st : Nat) (bV : V) (es : Bool) (aV : V) (place : Nat), vs = [.ref a, vn place] ∧ H a = some (.ins CM dx (nlF bA pl st bV es aV)) ∧
  ∀ (H' : Hp) (p : Addr), Fr [a] H H' → H p = none → H' a = some (.ins CM dx (nlF bA pl place (.ref p) false aV)) → H' p = some (.lst []) → Q .non H'
theorem scNumberedLineEnter : FnScope ["self", "place"] ["self", "place"] (defScope tNumberedLineEnter) := ⟨rfl, rfl, rfl, by decide +kernel, rfl, by decide +kernel, by decide +kernel⟩
theorem ok_NumberedLine_enter {f : Addr} {fd : FuncData} (D : RawM K CNumberedLine "enter" "NumberedLine.enter" tNumberedLineEnter f fd) (T : Tx K mg CBoard CNumberedLine CStrokes CNews CPart CPlainLine CHall) : OkM P w K mg base 1 CNumberedLine "enter" ["self", "place"] (spEnter CNumberedLine) f fd := by
  refine ⟨D.fn.ok scNumberedLineEnter (fun vs H Q E h => ?_) (fun cdv A outer s H vs Q E hr h => ⟨_,
    (pss_cons (ps_fld (pv 0) (pv 1) rfl)
      (pss_cons (ps_fld (pv 0) (pe_lst pa_nil) rfl)
      (pss_one (ps_fld (pv 0) pe_bl rfl)))), ?_⟩), D.at_, D.fn.binds fun _ _ _ _ _ _ us hl => match us, hl with | [_, _], _ => rfl⟩
  · obtain ⟨a, dx, bA, pl, st, bV, es, aV, place, rfl, _⟩ := h
    rfl
  · obtain ⟨a, dx, bA, pl, st, bV, es, aV, place, rfl, ho, k⟩ := h
    have fa : ∀ (H : Hp) (o : HO), Fr [a] H (upd H a o) := fun H o => Fr.upd (by simp)
    refine q_fld (ev_var rfl) (ev_var rfl) ho T.c_NumberedLine T.n_NumberedLine_start (by show 6 < 1000; decide) fun H1 e1 => ?_
    have o1 : upd H1 a (.ins CNumberedLine dx (putF "start" (vn place) (nlF bA pl st bV es aV))) a = some (.ins CNumberedLine dx (nlF bA pl place bV es aV)) := upd_same
    have f1 : Fr [a] H (upd H1 a (.ins CNumberedLine dx (putF "start" (vn place) (nlF bA pl st bV es aV)))) := (Fr.of e1).trans (fa _ _)
    generalize upd H1 a (.ins CNumberedLine dx (putF "start" (vn place) (nlF bA pl st bV es aV))) = K1 at o1 f1
    refine q_fldL (el_lst ea_nil few) (fun _ _ => ev_var rfl) o1 T.c_NumberedLine T.n_NumberedLine_body (by show 6 < 1000; decide) fun p H2 hp e2 h2 => ?_
    have pa : p ≠ a := (ne_of_none o1 hp).symm
    have o2 : upd H2 a (.ins CNumberedLine dx (putF "body" (.ref p) (nlF bA pl place bV es aV))) a = some (.ins CNumberedLine dx (nlF bA pl place (.ref p) es aV)) := upd_same
    refine s_fld (y := .bl false) ev_c (ev_var rfl) o2 T.c_NumberedLine T.n_NumberedLine_escaped (by show 6 < 1000; decide) fun H3 e3 => ?_
    refine k _ p ((((f1.trans (Fr.of e2)).trans (fa _ _)).trans (Fr.of e3)).trans (fa _ _)) (f1.free hp (by simpa using pa)) upd_same ?_
    exact (upd_ne pa).trans (e3 _ _ ((upd_ne pa).trans h2))
def spLeave (CM : Addr) : Sp := fun vs H Q _ => ∃ (a dx bA pl st : Nat) (bV : V) (es : Bool) (aV : V) (kind : Nat), vs = [.ref a, vn kind] ∧ H a = some (.ins CM dx (nlF bA pl st bV es aV)) ∧
  ∀ (H' : Hp) (r : Addr), Fr [a] H H' → H' a = some (.ins CM dx (nlF bA pl st .non es aV)) → H' r = some (.lst (vns (gots [.fault kind st]))) → Q (.ref r) H'
theorem scNumberedLineLeave : FnScope ["self", "kind"] ["self", "kind"] (defScope tNumberedLineLeave) := ⟨rfl, rfl, rfl, by decide +kernel, rfl, by decide +kernel, by decide +kernel⟩
theorem ok_NumberedLine_leave {f f1 : Addr} {fd fd1 : FuncData} (D : RawM K CNumberedLine "leave" "NumberedLine.leave" tNumberedLineLeave f fd) (T : Tx K mg CBoard CNumberedLine CStrokes CNews CPart CPlainLine CHall) (G_fault_told : Ok P w K mg base 1 "fault_told" ["kind", "place"] spFaultTold f1 fd1) :
    OkM P w K mg base 2 CNumberedLine "leave" ["self", "kind"] (spLeave CNumberedLine) f fd := by
  refine ⟨D.fn.ok scNumberedLineLeave (fun vs H Q E h => ?_) (fun cdv A outer s H vs Q E hr h => ⟨_,
    (pss_cons (ps_fld (pv 0) pe_non rfl)
      (pss_one (ps_ret (pe_own G_fault_told hr (pa_cons (pv 1) (pa_cons (pe_fld (pv 0) rfl) pa_nil)))))), ?_⟩), D.at_, D.fn.binds fun _ _ _ _ _ _ us hl => match us, hl with | [_, _], _ => rfl⟩
  · obtain ⟨a, dx, bA, pl, st, bV, es, aV, kind, rfl, _⟩ := h
    rfl
  · obtain ⟨a, dx, bA, pl, st, bV, es, aV, kind, rfl, ho, k⟩ := h
    refine q_fld ev_c (ev_var rfl) ho T.c_NumberedLine T.n_NumberedLine_body (by show 6 < 1000; decide) fun H1 e1 => ?_
    have o1 : upd H1 a (.ins CNumberedLine dx (putF "body" .non (nlF bA pl st bV es aV))) a = some (.ins CNumberedLine dx (nlF bA pl st .non es aV)) := upd_same
    refine s_retL (el_call (ea_cons (ev_var rfl) (ea_cons (ev_fld (ev_var rfl) o1 T.c_NumberedLine T.n_NumberedLine_start (v := vn st) rfl) ea_nil)) (spL_is fun H' e' => ⟨kind, st, rfl, rfl⟩)) fun r H2 hr e2 h2 => ?_
    exact k H2 r (((Fr.of e1).trans (Fr.upd (by simp))).trans (Fr.of e2)) (e2 _ _ o1) h2

/-! ### put, put_escaped -/
def spPut (CM : Addr) : Sp := fun vs H Q _ => ∃ (a dx bA pl st pA : Nat) (es : Bool) (aV : V) (y : UInt8) (b : Cd.Bytes), vs = [.ref a, vn y.toNat] ∧ H a = some (.ins CM dx (nlF bA pl st (.ref pA) es aV)) ∧ H pA = some (.lst (vns (tN b))) ∧ b.length ≤ 13 ∧
  (b.length = 13 → ∀ (H' : Hp) (r : Addr), Fr [a, pA] H H' → H' a = some (.ins CM dx (nlF bA pl st .non es aV)) → H' r = some (.lst (vns (gots [.fault 4 st]))) → Q (.ref r) H') ∧
  (b.length < 13 → ∀ (H' : Hp) (r : Addr), Fr [a, pA] H H' → H' a = some (.ins CM dx (nlF bA pl st (.ref pA) es aV)) → H' pA = some (.lst (vns (tN (b ++ [y])))) → H' r = some (.lst (vns (gots []))) → Q (.ref r) H')
theorem scNumberedLinePut : FnScope ["self", "byte"] ["self", "byte"] (defScope tNumberedLinePut) := ⟨rfl, rfl, rfl, by decide +kernel, rfl, by decide +kernel, by decide +kernel⟩
theorem ok_NumberedLine_put {f f1 : Addr} {fd fd1 : FuncData} (D : RawM K CNumberedLine "put" "NumberedLine.put" tNumberedLinePut f fd) (T : Tx K mg CBoard CNumberedLine CStrokes CNews CPart CPlainLine CHall) (G_NumberedLine_leave : OkM P w K mg base 2 CNumberedLine "leave" ["self", "kind"] (spLeave CNumberedLine) f1 fd1) :
    OkM P w K mg base 3 CNumberedLine "put" ["self", "byte"] (spPut CNumberedLine) f fd := by
  refine ⟨D.fn.ok scNumberedLinePut (fun vs H Q E h => ?_) (fun cdv A outer s H vs Q E hr h => ⟨_,
    (pss_cons (ps_if (pt_cmpR on_eq (pe_callB call_len_seq (by rfl) T.b_len PySem.boot_len (pa_cons (pe_fld (pv 0) rfl) pa_nil)) (pe_gi T.g_LONGEST_BODY) (nomark _)) (pss_one (ps_ret (pe_ownM G_NumberedLine_leave T.c_NumberedLine hr (pv 0) (pa_cons (pe_gi T.g_TOO_LONG) pa_nil)))) pss_nil)
      (pss_cons (ps_expr (pe_bm PySem.F.plainAttrs_list PySem.F.slot_list_append PySem.F.type_list_append mt_append (pe_fld (pv 0) rfl) (pa_cons (pv 1) pa_nil)))
      (pss_one (ps_ret (pe_lst pa_nil))))), ?_⟩), D.at_, D.fn.binds fun _ _ _ _ _ _ us hl => match us, hl with | [_, _], _ => rfl⟩
  · obtain ⟨a, dx, bA, pl, st, pA, es, aV, y, b, rfl, _⟩ := h
    rfl
  · obtain ⟨a, dx, bA, pl, st, pA, es, aV, y, b, rfl, ho, hl, h13, k1, k2⟩ := h
    have pa : pA ≠ a := ne_lst_ins hl ho
    have tl : (tN b).length = b.length := tN_length b
    refine q_when (etN (g := fun n m => decide (n = m)) (n := b.length) (m := 13) (ev_is (ev_lenN' (ev_fld (ev_var rfl) ho T.c_NumberedLine T.n_NumberedLine_body (v := .ref pA) rfl) (sq_of hl)) (by rw [tl])) ev_c trivial) (fun b1 H1 e1 => ?_) (fun b1 H1 e1 => ?_)
    · have e13 := of_decide_eq_true b1
      refine v_callM (ev_var rfl) (e1 _ _ ho) rfl (vs := [vn 4]) (fun _ _ => ea_cons ev_c ea_nil) fun H2 e2 => ?_
      exact ⟨a, dx, bA, pl, st, _, es, aV, 4, rfl, (e1.trans e2) _ _ ho, fun H3 r f3 h3 hr => k1 e13 H3 r ((Fr.of (e1.trans e2)).trans (f3.mono (by simp))) h3 hr⟩
    · have n13 := of_decide_eq_false b1
      refine q_app (e1 _ _ hl) (ev_fld (ev_var rfl) (e1 _ _ ho) T.c_NumberedLine T.n_NumberedLine_body (v := .ref pA) rfl) (ev_var rfl) (by rw [vns_length]; omega) fun H2 e2 => ?_
      refine s_retL (el_lst ea_nil few) fun r H3 hr e3 h3 => ?_
      refine k2 (by omega) H3 r (((Fr.of (e1.trans e2)).trans (Fr.upd (by simp))).trans (Fr.of e3)) (e3 _ _ ((upd_ne pa.symm).trans ((e1.trans e2) _ _ ho))) (e3 _ _ (upd_same.trans ?_)) h3
      rw [tN_append, vns_append]
      rfl
def escOk (y : UInt8) : Prop := y = 34 ∨ y = 35 ∨ y = 48
theorem esc_res (y : UInt8) : resN (y.toNat ^^^ 32) = true ↔ escOk y := by
  unfold escOk
  have h : ∀ n : Fin 256, (resN (n.val ^^^ 32) = true ↔ (n.val = 34 ∨ n.val = 35 ∨ n.val = 48)) := by decide +kernel
  have := h ⟨y.toNat, y.toNat_lt⟩
  rw [← UInt8.toNat_inj, ← UInt8.toNat_inj, ← UInt8.toNat_inj]
  exact this
def spPutEsc (CM : Addr) : Sp := fun vs H Q _ => ∃ (a dx bA pl st pA : Nat) (es : Bool) (aV : V) (y : UInt8) (b : Cd.Bytes), vs = [.ref a, vn y.toNat] ∧ H a = some (.ins CM dx (nlF bA pl st (.ref pA) es aV)) ∧ H pA = some (.lst (vns (tN b))) ∧ b.length ≤ 13 ∧
  (¬ escOk y → ∀ (H' : Hp) (r : Addr), Fr [a, pA] H H' → H' a = some (.ins CM dx (nlF bA pl st .non false aV)) → H' r = some (.lst (vns (gots [.fault 3 st]))) → Q (.ref r) H') ∧
  (escOk y → b.length = 13 → ∀ (H' : Hp) (r : Addr), Fr [a, pA] H H' → H' a = some (.ins CM dx (nlF bA pl st .non false aV)) → H' r = some (.lst (vns (gots [.fault 4 st]))) → Q (.ref r) H') ∧
  (escOk y → b.length < 13 → ∀ (H' : Hp) (r : Addr), Fr [a, pA] H H' → H' a = some (.ins CM dx (nlF bA pl st (.ref pA) false aV)) → H' pA = some (.lst (vns (tN (b ++ [y ^^^ 32])))) → H' r = some (.lst (vns (gots []))) → Q (.ref r) H')
theorem scNumberedLinePutEscaped : FnScope ["self", "byte", "turned"] ["self", "byte"] (defScope tNumberedLinePutEscaped) := ⟨rfl, rfl, rfl, by decide +kernel, rfl, by decide +kernel, by decide +kernel⟩
theorem ok_NumberedLine_put_escaped {f f1 f2 f3 : Addr} {fd fd1 fd2 fd3 : FuncData} (D : RawM K CNumberedLine "put_escaped" "NumberedLine.put_escaped" tNumberedLinePutEscaped f fd) (T : Tx K mg CBoard CNumberedLine CStrokes CNews CPart CPlainLine CHall)
    (G_is_reserved : Ok P w K mg base 1 "is_reserved" ["byte"] spIsReserved f1 fd1) (G_NumberedLine_leave : OkM P w K mg base 2 CNumberedLine "leave" ["self", "kind"] (spLeave CNumberedLine) f2 fd2) (G_NumberedLine_put : OkM P w K mg base 3 CNumberedLine "put" ["self", "byte"] (spPut CNumberedLine) f3 fd3) :
    OkM P w K mg base 4 CNumberedLine "put_escaped" ["self", "byte"] (spPutEsc CNumberedLine) f fd := by
  refine ⟨D.fn.ok scNumberedLinePutEscaped (fun vs H Q E h => ?_) (fun cdv A outer s H vs Q E hr h => ⟨_,
    (pss_cons (ps_fld (pv 0) pe_bl rfl)
      (pss_cons (ps_set (i := 2) scNumberedLinePutEscaped.nd rfl (Or.inl rfl) (pe_op on_xor (pv 1) (pe_gi T.g_TURNED_BIT)))
      (pss_cons (ps_if (pt_not (pt_val (pe_own G_is_reserved hr (pa_cons (pv 2) pa_nil)))) (pss_one (ps_ret (pe_ownM G_NumberedLine_leave T.c_NumberedLine hr (pv 0) (pa_cons (pe_gi T.g_WRONG_ESCAPE) pa_nil)))) pss_nil)
      (pss_one (ps_ret (pe_ownM G_NumberedLine_put T.c_NumberedLine hr (pv 0) (pa_cons (pv 2) pa_nil))))))), ?_⟩), D.at_, D.fn.binds fun _ _ _ _ _ _ us hl => match us, hl with | [_, _], _ => rfl⟩
  · obtain ⟨a, dx, bA, pl, st, pA, es, aV, y, b, rfl, _⟩ := h
    rfl
  · obtain ⟨a, dx, bA, pl, st, pA, es, aV, y, b, rfl, ho, hl, h13, k1, k2, k3⟩ := h
    have pa : pA ≠ a := ne_lst_ins hl ho
    have er := esc_res y
    refine q_fld (y := .bl false) ev_c (ev_var rfl) ho T.c_NumberedLine T.n_NumberedLine_escaped (by show 6 < 1000; decide) fun H1 e1 => ?_
    have o1 : upd H1 a (.ins CNumberedLine dx (putF "escaped" (.bl false) (nlF bA pl st (.ref pA) es aV))) a = some (.ins CNumberedLine dx (nlF bA pl st (.ref pA) false aV)) := upd_same
    have l1 : upd H1 a (.ins CNumberedLine dx (putF "escaped" (.bl false) (nlF bA pl st (.ref pA) es aV))) pA = some (.lst (vns (tN b))) := (upd_ne pa).trans (e1 _ _ hl)
    have f1 : Fr [a, pA] H (upd H1 a (.ins CNumberedLine dx (putF "escaped" (.bl false) (nlF bA pl st (.ref pA) es aV)))) := (Fr.of e1).trans (Fr.upd (by simp))
    generalize upd H1 a (.ins CNumberedLine dx (putF "escaped" (.bl false) (nlF bA pl st (.ref pA) es aV))) = K1 at o1 l1 f1
    refine q_asg (evN (n := y.toNat) (m := 32) (ev_var rfl) ev_c trivial) fun H2 e2 => ?_
    refine q_when (et_not (et_B (b := resN (y.toNat ^^^ 32)) (ev_call (ea_cons (ev_var rfl) ea_nil) (spV_is fun H' e' => ⟨_, rfl, rfl⟩)))) (fun b1 H3 e3 => ?_) (fun b1 H3 e3 => ?_)
    · have ne : ¬ escOk y := fun z => by
        rw [er.mpr z] at b1
        cases b1
      have e13 := e2.trans e3
      refine v_callM (ev_var rfl) (e13 _ _ o1) rfl (vs := [vn 3]) (fun _ _ => ea_cons ev_c ea_nil) fun H4 e4 => ?_
      exact ⟨a, dx, bA, pl, st, _, false, aV, 3, rfl, (e13.trans e4) _ _ o1, fun H5 r f5 h5 hr => k1 ne H5 r ((f1.trans (Fr.of (e13.trans e4))).trans (f5.mono (by simp))) h5 hr⟩
    · have ye : escOk y := er.mp (by
        cases z : resN (y.toNat ^^^ 32)
        · rw [z] at b1
          cases b1
        · rfl)
      have e13 := e2.trans e3
      refine v_callM (ev_var rfl) (e13 _ _ o1) rfl (vs := [vn (y.toNat ^^^ 32)]) (fun _ _ => ea_cons (ev_var rfl) ea_nil) fun H4 e4 => ?_
      have e14 := e13.trans e4
      have xt : (y ^^^ 32).toNat = y.toNat ^^^ 32 := UInt8.toNat_xor y 32
      exact ⟨a, dx, bA, pl, st, pA, false, aV, y ^^^ 32, b, by rw [xt]; rfl, e14 _ _ o1, e14 _ _ l1, h13, fun c H5 r f5 h5 hr => k2 ye c H5 r ((f1.trans (Fr.of e14)).trans f5) h5 hr, fun c H5 r f5 h5 hp hr => k3 ye c H5 r ((f1.trans (Fr.of e14)).trans f5) h5 hp hr⟩

/-! ### end_frame -/
def endGot (size st : Nat) (nx : Option Nat) (b : Cd.Bytes) : CdKeys.Got × Option Nat := match CdKeys.judge size b with
  | .inl kd => (.fault kd st, nx)
  | .inr (n, v, c) => if 128 ≤ (n + 256 - nx.getD n) % 256 then (.fault 9 st, nx) else (.chord c v ((n + 256 - nx.getD n) % 256), some ((n + 1) % 256))
def spEndFrame (CM CB : Addr) : Sp := fun vs H Q _ => ∃ (a dx bA pl st pA : Nat) (es : Bool) (nx : Option Nat) (b : Cd.Bytes) (k : Kb), vs = [.ref a] ∧ H a = some (.ins CM dx (nlF bA pl st (.ref pA) es (awV nx))) ∧ H pA = some (.lst (vns (tN b))) ∧ b.length ≤ 13 ∧ (∀ v, nx = some v → v < 256) ∧ BdOut CB H bA k [a] ∧
  ∀ (H' : Hp) (r : Addr), Fr [a] H H' → H' a = some (.ins CM dx (nlF bA pl st .non es (awV (endGot k.size st nx b).2))) → H' r = some (.lst (vns (gots [(endGot k.size st nx b).1]))) → Q (.ref r) H'
theorem lost_is {n v : Nat} (hn : n < 256) (hv : v < 256) : V.int (((n : Int) - (v : Int)) % ((256 : Nat) : Int)) = vn ((n + 256 - v) % 256) := by
  refine vn_eq ?_
  omega
theorem scNumberedLineEndFrame : FnScope ["self", "body", "kind", "number", "lost"] ["self"] (defScope tNumberedLineEndFrame) := ⟨rfl, rfl, rfl, by decide +kernel, rfl, by decide +kernel, by decide +kernel⟩
theorem ok_NumberedLine_end_frame {f f1 f2 f3 f4 f5 f6 : Addr} {fd fd1 fd2 fd3 fd4 fd5 fd6 : FuncData} (D : RawM K CNumberedLine "end_frame" "NumberedLine.end_frame" tNumberedLineEndFrame f fd) (T : Tx K mg CBoard CNumberedLine CStrokes CNews CPart CPlainLine CHall)
    (G_fault_in : Ok P w K mg base 3 "fault_in" ["body", "board"] (spFaultIn K CBoard) f1 fd1) (G_fault_told : Ok P w K mg base 1 "fault_told" ["kind", "place"] spFaultTold f2 fd2) (G_chord_told : Ok P w K mg base 1 "chord_told" ["chord", "ticks", "lost"] spChordTold f3 fd3)
    (G_chord_in : Ok P w K mg base 2 "chord_in" ["body"] (spChordIn K) f4 fd4) (G_ticks_of : Ok P w K mg base 1 "ticks_of" ["row"] (spTicksOf K) f5 fd5) (G_ticks_in : Ok P w K mg base 1 "ticks_in" ["body"] (spTicksIn K) f6 fd6) :
    OkM P w K mg base 4 CNumberedLine "end_frame" ["self"] (spEndFrame CNumberedLine CBoard) f fd := by
  refine ⟨D.fn.ok scNumberedLineEndFrame (fun vs H Q E h => ?_) (fun cdv A outer s H vs Q E hr h => ⟨_,
    (pss_cons (ps_set (i := 1) scNumberedLineEndFrame.nd rfl (Or.inl rfl) (pe_fld (pv 0) rfl))
      (pss_cons (ps_fld (pv 0) pe_non rfl)
      (pss_cons (ps_set (i := 2) scNumberedLineEndFrame.nd rfl (Or.inl rfl) (pe_own G_fault_in hr (pa_cons (pv 1) (pa_cons (pe_fld (pv 0) rfl) pa_nil))))
      (pss_cons (ps_if (pt_cmpR on_ne (pv 2) (pe_gi T.g_NO_FAULT) (nomark _)) (pss_one (ps_ret (pe_own G_fault_told hr (pa_cons (pv 2) (pa_cons (pe_fld (pv 0) rfl) pa_nil))))) pss_nil)
      (pss_cons (ps_set (i := 3) scNumberedLineEndFrame.nd rfl (Or.inl rfl) (pe_ix ix_list (pv 1) pe_n (fun _ _ => rfl)))
      (pss_cons (ps_set (i := 4) scNumberedLineEndFrame.nd rfl (Or.inl rfl) (pe_ifExp (pt_cmpR op_isN (pe_fld (pv 0) rfl) pe_non (nomark _)) pe_n (pe_op op_mod (pe_op op_sub (pv 3) (pe_fld (pv 0) rfl)) (pe_gi T.g_NUMBERS_frames))))
      (pss_cons (ps_if (pt_cmpR on_gt (pv 4) (pe_gi T.g_MOST_LOST) (nomark _)) (pss_one (ps_ret (pe_own G_fault_told hr (pa_cons (pe_gi T.g_OLD) (pa_cons (pe_fld (pv 0) rfl) pa_nil))))) pss_nil)
      (pss_cons (ps_fld (pv 0) (pe_op on_mod (pe_op on_add (pv 3) pe_n) (pe_gi T.g_NUMBERS_frames)) rfl)
      (pss_one (ps_ret (pe_own G_chord_told hr (pa_cons (pe_own G_chord_in hr (pa_cons (pv 1) pa_nil)) (pa_cons (pe_own G_ticks_of hr (pa_cons (pe_own G_ticks_in hr (pa_cons (pv 1) pa_nil)) pa_nil)) (pa_cons (pv 4) pa_nil)))))))))))))), ?_⟩), D.at_, D.fn.binds fun _ _ _ _ _ _ us hl => match us, hl with | [_], _ => rfl⟩
  · obtain ⟨a, dx, bA, pl, st, pA, es, nx, b, k, rfl, _⟩ := h
    rfl
  · obtain ⟨a, dx, bA, pl, st, pA, es, nx, b, k, rfl, ho, hl, h13, hnx, hB, kQ⟩ := h
    have pa : pA ≠ a := ne_lst_ins hl ho
    have tl : (tN b).length = b.length := tN_length b
    have ji := judge_is k.size b h13
    unfold endGot at kQ
    rw [ji] at kQ
    refine q_asg (ev_fld (ev_var rfl) ho T.c_NumberedLine T.n_NumberedLine_body (v := .ref pA) rfl) fun H1 e1 => ?_
    refine q_fld ev_c (ev_var rfl) (e1 _ _ ho) T.c_NumberedLine T.n_NumberedLine_body (by show 6 < 1000; decide) fun H2 e2 => ?_
    have o2 : upd H2 a (.ins CNumberedLine dx (putF "body" .non (nlF bA pl st (.ref pA) es (awV nx)))) a = some (.ins CNumberedLine dx (nlF bA pl st .non es (awV nx))) := upd_same
    have l2 : upd H2 a (.ins CNumberedLine dx (putF "body" .non (nlF bA pl st (.ref pA) es (awV nx)))) pA = some (.lst (vns (tN b))) := (upd_ne pa).trans ((e1.trans e2) _ _ hl)
    have f2 : Fr [a] H (upd H2 a (.ins CNumberedLine dx (putF "body" .non (nlF bA pl st (.ref pA) es (awV nx))))) := (Fr.of (e1.trans e2)).trans (Fr.upd (by simp))
    generalize upd H2 a (.ins CNumberedLine dx (putF "body" .non (nlF bA pl st (.ref pA) es (awV nx)))) = K2 at o2 l2 f2
    have hB2 := hB.fr f2
    refine q_asg (v := vn (faultIn k.size b)) (ev_call (ea_cons (ev_var rfl) (ea_cons (ev_fld (ev_var rfl) o2 T.c_NumberedLine T.n_NumberedLine_board (v := .ref bA) rfl) ea_nil)) (spV_is fun H' e' => ⟨pA, bA, b, k, rfl, sq_of (e' _ _ l2), h13, (hB2.ex e').is, rfl⟩)) fun H3 e3 => ?_
    refine q_when (etN (g := fun n m => !decide (n = m)) (n := faultIn k.size b) (m := 0) (ev_var rfl) ev_c trivial) (fun b1 H4 e4 => ?_) (fun b1 H4 e4 => ?_)
    · have nz : ¬ faultIn k.size b = 0 := by simpa using b1
      rw [if_neg nz] at kQ
      have e := e3.trans e4
      refine s_retL (el_call (ea_cons (ev_var rfl) (ea_cons (ev_fld (ev_var rfl) (e _ _ o2) T.c_NumberedLine T.n_NumberedLine_start (v := vn st) rfl) ea_nil)) (spL_is fun H' e' => ⟨_, st, rfl, rfl⟩)) fun r H5 hr e5 h5 => ?_
      exact kQ H5 r (f2.trans (Fr.of (e.trans e5))) ((e.trans e5) _ _ o2) h5
    have z0 : faultIn k.size b = 0 := by simpa using b1
    rw [if_pos z0] at kQ
    have b10 := faultIn_cases _ _ z0
    have e24 := e3.trans e4
    obtain ⟨x, t, hb⟩ : ∃ x t, b = x :: t := by
      cases b with
      | nil => simp at b10
      | cons x t => exact ⟨x, t, rfl⟩
    have hd : b.headD 0 = x := by rw [hb]; rfl
    rw [hd] at kQ
    have x256 := x.toNat_lt
    have h0 : (tN b)[0]? = some x.toNat := by rw [hb]; rfl
    refine q_asg (ev_ixN (i := 0) (ev_var rfl) ev_n (sq_of (e24 _ _ l2)) h0) fun H5 e5 => ?_
    have e25 := e24.trans e5
    have fld : ∀ {σ : L2.St} {H' : Hp}, Evl.Ex K2 H' → σ[0]? = some (some (.ref a)) → Ev (tFld K (tVar 0) "awaited") σ H' (awV nx) := fun e hσ => ev_fld (ev_var hσ) (e _ _ o2) T.c_NumberedLine T.n_NumberedLine_awaited rfl
    dsimp only at kQ
    refine q_asg (v := vn ((x.toNat + 256 - nx.getD x.toNat) % 256)) (ev_if (b := decide (awV nx = .non)) (et_test (ev_op (fld e25 rfl) ev_c rv_isN)) (fun c => ?_) (fun c => ?_)) fun H6 e6 => ?_
    · cases nx with
      | none =>
        refine ev_is (v := vn 0) ev_n ?_
        show vn 0 = vn ((x.toNat + 256 - x.toNat) % 256)
        rw [show (x.toNat + 256 - x.toNat) % 256 = 0 by omega]
      | some v => exact absurd (of_decide_eq_true c) (by intro z; cases z)
    · cases nx with
      | none => cases c
      | some v =>
        refine ev_is (ev_op (x := .int ((x.toNat : Int) - (v : Int))) (y := vn 256) (ev_op (x := vn x.toNat) (y := vn v) (ev_var rfl) (fld e25 rfl) rv_I0) ev_c (rv_I (by decide))) ?_
        exact lost_is x256 (hnx v rfl)
    have e26 := e25.trans e6
    generalize (x.toNat + 256 - nx.getD x.toNat) % 256 = lost at kQ
    refine q_when (etN (g := fun n m => decide (m < n)) (n := lost) (m := 127) (ev_var rfl) ev_c trivial) (fun b2 H7 e7 => ?_) (fun b2 H7 e7 => ?_)
    · have gt := of_decide_eq_true b2
      rw [if_pos (show 128 ≤ lost by omega)] at kQ
      have e := e26.trans e7
      refine s_retL (el_call (ea_cons ev_c (ea_cons (ev_fld (ev_var rfl) (e _ _ o2) T.c_NumberedLine T.n_NumberedLine_start (v := vn st) rfl) ea_nil)) (spL_is fun H' e' => ⟨9, st, rfl, rfl⟩)) fun r H8 hr e8 h8 => ?_
      exact kQ H8 r (f2.trans (Fr.of (e.trans e8))) ((e.trans e8) _ _ o2) h8
    · have le := of_decide_eq_false b2
      rw [if_neg (show ¬ 128 ≤ lost by omega)] at kQ
      have e27 := e26.trans e7
      refine q_fld (y := vn ((x.toNat + 1) % 256)) (evN (n := x.toNat + 1) (m := 256) (evN (n := x.toNat) (m := 1) (ev_var rfl) ev_n trivial) ev_c (by show 1 ≤ 256; decide)) (ev_var rfl) (e27 _ _ o2) T.c_NumberedLine T.n_NumberedLine_awaited (by show 6 < 1000; decide) fun H8 e8 => ?_
      have o8 : upd H8 a (.ins CNumberedLine dx (putF "awaited" (vn ((x.toNat + 1) % 256)) (nlF bA pl st .non es (awV nx)))) a = some (.ins CNumberedLine dx (nlF bA pl st .non es (awV (some ((x.toNat + 1) % 256))))) := upd_same
      have l8 : upd H8 a (.ins CNumberedLine dx (putF "awaited" (vn ((x.toNat + 1) % 256)) (nlF bA pl st .non es (awV nx)))) pA = some (.lst (vns (tN b))) := (upd_ne pa).trans ((e27.trans e8) _ _ l2)
      have f8 : Fr [a] H (upd H8 a (.ins CNumberedLine dx (putF "awaited" (vn ((x.toNat + 1) % 256)) (nlF bA pl st .non es (awV nx))))) := (f2.trans (Fr.of (e27.trans e8))).trans (Fr.upd (by simp))
      generalize upd H8 a (.ins CNumberedLine dx (putF "awaited" (vn ((x.toNat + 1) % 256)) (nlF bA pl st .non es (awV nx)))) = K8 at o8 l8 f8
      refine s_retL (el_call (ea_cons (x := vn (chordIn (tN b))) (ev_call (ea_cons (ev_var rfl) ea_nil) (spV_is fun H' e' => ⟨pA, tN b, rfl, sq_of (e' _ _ l8), by omega, rfl⟩)) (ea_cons (x := vn (toN (ticksIn (tN b)))) (ev_callL1 (el_call (ea_cons (ev_var rfl) ea_nil) (spL_is fun H' e' => ⟨pA, tN b, rfl, sq_of (e' _ _ l8), by omega, rfl⟩)) fun p H' e' h' => spV_is fun H'' e'' => ⟨p, _, rfl, sq_of (e'' _ _ h'), rfl⟩) (ea_cons (ev_var rfl) ea_nil))) (spL_is fun H' e' => ⟨chordIn (tN b), toN (ticksIn (tN b)), lost, rfl, rfl⟩)) fun r H9 hr e9 h9 => ?_
      exact kQ H9 r (f8.trans (Fr.of e9)) (e9 _ _ o8) h9
end
end Kx

-- KNum2
/-! The numbered line: a byte received. -/
namespace Kx
open PySem PySem.Spec PyProof.Rows L2 Evl

section
variable {size n st : Nat} {l : CdKeys.Line} {x : UInt8} {b : Cd.Bytes}
theorem num_open (hx : x = 2) : lineStep size (n + 1) l x = (foundP l.part, { l with place := l.place + 1, turn := false, part := some (l.place, []) }) := by
  unfold lineStep CdKeys.numbered
  rw [if_neg (by omega)]
  cases hp : l.part with
  | none =>
    dsimp only
    rw [if_pos hx]
    rfl
  | some p =>
    dsimp only
    rw [if_pos hx]
    rfl
theorem num_stray (hx : ¬ x = 2) (hp : l.part = none) : lineStep size (n + 1) l x = ([.fault 1 l.place], { l with place := l.place + 1, turn := false }) := by
  unfold lineStep CdKeys.numbered
  rw [if_neg (by omega), hp]
  dsimp only
  rw [if_neg hx]
theorem num_esc3 (hx : ¬ x = 2) (hp : l.part = some (st, b)) (ht : l.turn = true) (he : ¬ escOk x) : lineStep size (n + 1) l x = ([.fault 3 st], { l with place := l.place + 1, turn := false, part := none }) := by
  unfold escOk at he
  unfold lineStep CdKeys.numbered
  rw [if_neg (by omega), hp]
  dsimp only
  rw [if_neg hx, if_pos ht, if_neg he]
theorem num_esc4 (hx : ¬ x = 2) (hp : l.part = some (st, b)) (ht : l.turn = true) (he : escOk x) (hb : 13 ≤ b.length) : lineStep size (n + 1) l x = ([.fault 4 st], { l with place := l.place + 1, turn := false, part := none }) := by
  unfold escOk at he
  unfold lineStep CdKeys.numbered
  rw [if_neg (by omega), hp]
  dsimp only
  rw [if_neg hx, if_pos ht, if_pos he, if_pos hb]
theorem num_esc (hx : ¬ x = 2) (hp : l.part = some (st, b)) (ht : l.turn = true) (he : escOk x) (hb : ¬ 13 ≤ b.length) : lineStep size (n + 1) l x = ([], { l with place := l.place + 1, turn := false, part := some (st, b ++ [x ^^^ 32]) }) := by
  unfold escOk at he
  unfold lineStep CdKeys.numbered
  rw [if_neg (by omega), hp]
  dsimp only
  rw [if_neg hx, if_pos ht, if_pos he, if_neg hb]
theorem num_end (hx : x = 3) (hp : l.part = some (st, b)) (ht : l.turn = false) : lineStep size (n + 1) l x = ([(endGot size st l.next b).1], { l with place := l.place + 1, turn := false, part := none, next := (endGot size st l.next b).2 }) := by
  unfold lineStep CdKeys.numbered endGot
  rw [if_neg (by omega), hp]
  subst hx
  dsimp only
  rw [if_neg (by decide), ht, if_neg (by decide), if_neg (by decide), if_pos rfl]
  cases CdKeys.judge size b with
  | inl k => rfl
  | inr z =>
    obtain ⟨n, v, c⟩ := z
    dsimp only
    split <;> rfl
theorem num_mark (hx : x = 16) (hp : l.part = some (st, b)) (ht : l.turn = false) : lineStep size (n + 1) l x = ([], { l with place := l.place + 1, turn := true }) := by
  unfold lineStep CdKeys.numbered
  rw [if_neg (by omega), hp]
  subst hx
  dsimp only
  rw [if_neg (by decide), ht, if_neg (by decide), if_pos rfl]
theorem num_put4 (h2 : ¬ x = 2) (h3 : ¬ x = 3) (h16 : ¬ x = 16) (hp : l.part = some (st, b)) (ht : l.turn = false) (hb : 13 ≤ b.length) : lineStep size (n + 1) l x = ([.fault 4 st], { l with place := l.place + 1, turn := false, part := none }) := by
  unfold lineStep CdKeys.numbered
  rw [if_neg (by omega), hp]
  dsimp only
  rw [if_neg h2, ht, if_neg (by decide), if_neg h16, if_neg h3, if_pos hb]
theorem num_put (h2 : ¬ x = 2) (h3 : ¬ x = 3) (h16 : ¬ x = 16) (hp : l.part = some (st, b)) (ht : l.turn = false) (hb : ¬ 13 ≤ b.length) : lineStep size (n + 1) l x = ([], { l with place := l.place + 1, turn := false, part := some (st, b ++ [x]) }) := by
  unfold lineStep CdKeys.numbered
  rw [if_neg (by omega), hp]
  dsimp only
  rw [if_neg h2, ht, if_neg (by decide), if_neg h16, if_neg h3, if_neg hb]
theorem endGot_nx {nx : Option Nat} (h : ∀ v, nx = some v → v < 256) : ∀ v, (endGot size st nx b).2 = some v → v < 256 := by
  unfold endGot
  split
  · exact h
  · split
    · exact h
    · intro v hv
      have := Option.some.inj hv
      omega
end
theorem u8_is {x : UInt8} {m : Nat} (hm : m < 256) : decide (x.toNat = m) = decide (x = UInt8.ofNat m) := by
  refine decide_eq_decide.mpr ?_
  rw [← UInt8.toNat_inj, ofNat_toNat hm]
section
variable {P : Program} {w : World} {K : PySem.W.Frag} {mg : Str → Option Value} {base : Heap} {CBoard CNumberedLine CStrokes CNews CPart CPlainLine CHall : Addr}
theorem scNumberedLineReceive : FnScope ["self", "byte", "place", "found"] ["self", "byte"] (defScope tNumberedLineReceive) := ⟨rfl, rfl, rfl, by decide +kernel, rfl, by decide +kernel, by decide +kernel⟩
theorem ok_NumberedLine_receive {f f1 f2 f3 f4 f5 : Addr} {fd fd1 fd2 fd3 fd4 fd5 : FuncData} (D : RawM K CNumberedLine "receive" "NumberedLine.receive" tNumberedLineReceive f fd) (T : Tx K mg CBoard CNumberedLine CStrokes CNews CPart CPlainLine CHall)
    (G_fault_told : Ok P w K mg base 1 "fault_told" ["kind", "place"] spFaultTold f1 fd1) (G_NumberedLine_enter : OkM P w K mg base 1 CNumberedLine "enter" ["self", "place"] (spEnter CNumberedLine) f2 fd2) (G_NumberedLine_put_escaped : OkM P w K mg base 4 CNumberedLine "put_escaped" ["self", "byte"] (spPutEsc CNumberedLine) f3 fd3)
    (G_NumberedLine_end_frame : OkM P w K mg base 4 CNumberedLine "end_frame" ["self"] (spEndFrame CNumberedLine CBoard) f4 fd4) (G_NumberedLine_put : OkM P w K mg base 3 CNumberedLine "put" ["self", "byte"] (spPut CNumberedLine) f5 fd5) :
    OkM P w K mg base 5 CNumberedLine "receive" ["self", "byte"] (spReceive CPlainLine CNumberedLine CBoard (fun n => n ≠ 0)) f fd := by
  refine ⟨D.fn.ok scNumberedLineReceive (fun vs H Q E h => ?_) (fun cdv A outer s H vs Q E hr h => ⟨_,
    (pss_cons (ps_set (i := 2) scNumberedLineReceive.nd rfl (Or.inl rfl) (pe_fld (pv 0) rfl))
      (pss_cons (ps_fldaug (pv 0) pe_n in_add)
      (pss_cons (ps_if (pt_cmpR on_eq (pv 1) (pe_gi T.g_OPENING) (nomark _)) (pss_cons (ps_set (i := 3) scNumberedLineReceive.nd rfl (Or.inl rfl) (pe_ifExp (pt_cmpR op_isN (pe_fld (pv 0) rfl) pe_non (nomark _)) (pe_lst pa_nil) (pe_own G_fault_told hr (pa_cons (pe_gi T.g_CUT_OFF_frames) (pa_cons (pe_fld (pv 0) rfl) pa_nil)))))
      (pss_cons (ps_expr (pe_ownM G_NumberedLine_enter T.c_NumberedLine hr (pv 0) (pa_cons (pv 2) pa_nil)))
      (pss_one (ps_ret (pv 3))))) pss_nil)
      (pss_cons (ps_if (pt_cmpR op_isN (pe_fld (pv 0) rfl) pe_non (nomark _)) (pss_one (ps_ret (pe_own G_fault_told hr (pa_cons (pe_gi T.g_STRAY_frames) (pa_cons (pv 2) pa_nil))))) pss_nil)
      (pss_cons (ps_if (pt_val (pe_fld (pv 0) rfl)) (pss_one (ps_ret (pe_ownM G_NumberedLine_put_escaped T.c_NumberedLine hr (pv 0) (pa_cons (pv 1) pa_nil)))) pss_nil)
      (pss_cons (ps_if (pt_cmpR on_eq (pv 1) (pe_gi T.g_CLOSING) (nomark _)) (pss_one (ps_ret (pe_ownM0 G_NumberedLine_end_frame T.c_NumberedLine hr (pv 0)))) pss_nil)
      (pss_cons (ps_if (pt_cmpR on_eq (pv 1) (pe_gi T.g_ESCAPE) (nomark _)) (pss_cons (ps_fld (pv 0) pe_bl rfl)
      (pss_one (ps_ret (pe_lst pa_nil)))) pss_nil)
      (pss_one (ps_ret (pe_ownM G_NumberedLine_put T.c_NumberedLine hr (pv 0) (pa_cons (pv 1) pa_nil))))))))))), ?_⟩), D.at_, D.fn.binds fun _ _ _ _ _ _ us hl => match us, hl with | [_, _], _ => rfl⟩
  · obtain ⟨a, bA, which, x, l, k, L, rfl, _⟩ := h
    rfl
  · obtain ⟨a, bA, which, x, l, k, L, rfl, hw, hL, hB, kQ⟩ := h
    obtain ⟨n, rfl⟩ : ∃ n, which = n + 1 := ⟨which - 1, by omega⟩
    obtain ⟨dx, start, hN, hnx⟩ := hL
    obtain ⟨bV, ho, hcase⟩ : ∃ bV, H a = some (.ins CNumberedLine dx (nlF bA l.place start bV l.turn (awV l.next))) ∧ ((bV = .non ∧ l.part = none ∧ l.turn = false ∧ L = [a]) ∨ ∃ pA b, bV = .ref pA ∧ l.part = some (start, b) ∧ b.length ≤ 13 ∧ L = [a, pA] ∧ H pA = some (.lst (vns (tN b)))) := by
      rcases hN with ⟨h1, h0, h2, h3⟩ | ⟨pA, b, h1, h2, h3, h4, h5⟩
      · exact ⟨.non, by rw [h0]; exact h3, Or.inl ⟨rfl, h1, h0, h2⟩⟩
      · exact ⟨.ref pA, h4, Or.inr ⟨pA, b, rfl, h1, h2, h3, h5⟩⟩
    have aL : a ∈ L := by
      rcases hcase with ⟨_, _, _, rfl⟩ | ⟨_, _, _, _, _, rfl, _⟩ <;> simp
    have fa : ∀ (H : Hp) (o : HO), Fr L H (upd H a o) := fun H o => Fr.upd aL
    have fA : ∀ {H H' : Hp}, Fr [a] H H' → Fr L H H' := fun f => f.mono fun z hz => by
      rw [List.mem_singleton] at hz
      subst hz
      exact aL
    refine q_asg (v := vn l.place) (ev_fld (ev_var rfl) ho T.c_NumberedLine T.n_NumberedLine_place rfl) fun H1 e1 => ?_
    refine q_fldaug (n := l.place) (m := 1) (ev_var rfl) ev_n (e1 _ _ ho) T.c_NumberedLine T.n_NumberedLine_place rfl (by show 6 < 1000; decide) fun H2 e2 => ?_
    have o2 : upd H2 a (.ins CNumberedLine dx (putF "place" (vn (l.place + 1)) (nlF bA l.place start bV l.turn (awV l.next)))) a = some (.ins CNumberedLine dx (nlF bA (l.place + 1) start bV l.turn (awV l.next))) := upd_same
    have l2 : ∀ pA b, H pA = some (.lst (vns (tN b))) → upd H2 a (.ins CNumberedLine dx (putF "place" (vn (l.place + 1)) (nlF bA l.place start bV l.turn (awV l.next)))) pA = some (.lst (vns (tN b))) := fun pA b hp => (upd_ne (ne_lst_ins hp ho)).trans ((e1.trans e2) _ _ hp)
    have f2 : Fr L H (upd H2 a (.ins CNumberedLine dx (putF "place" (vn (l.place + 1)) (nlF bA l.place start bV l.turn (awV l.next))))) := (Fr.of (e1.trans e2)).trans (fa _ _)
    generalize upd H2 a (.ins CNumberedLine dx (putF "place" (vn (l.place + 1)) (nlF bA l.place start bV l.turn (awV l.next)))) = K2 at o2 l2 f2
    have bod : ∀ {σ : L2.St} {H' : Hp}, Evl.Ex K2 H' → σ[0]? = some (some (.ref a)) → Ev (tFld K (tVar 0) "body") σ H' bV := fun e hσ => ev_fld (ev_var hσ) (e _ _ o2) T.c_NumberedLine T.n_NumberedLine_body rfl
    refine q_when (etN (g := fun n m => decide (n = m)) (n := x.toNat) (m := 2) (ev_var rfl) ev_c trivial) (fun b1 H3 e3 => ?_) (fun b1 H3 e3 => ?_)
    · -- a frame begins
      have x2 : x = 2 := of_decide_eq_true ((u8_is (by decide)).symm.trans b1)
      rw [num_open x2] at kQ
      refine q_asgL (xs := vns (gots (foundP l.part))) (el_if (c := decide (bV = .non)) (et_test (ev_op (bod e3 rfl) ev_c rv_isN)) (fun c => ?_) (fun c => ?_)) fun r H4 hr e4 h4 => ?_
      · rcases hcase with ⟨_, h1, _⟩ | ⟨pA, b, rfl, _⟩
        · rw [h1]
          exact el_lst ea_nil few
        · exact absurd (of_decide_eq_true c) (by intro z; cases z)
      · rcases hcase with ⟨rfl, _⟩ | ⟨pA, b, _, h1, _⟩
        · cases c
        · rw [h1]
          exact el_call (ea_cons ev_c (ea_cons (ev_fld (ev_var rfl) (e3 _ _ o2) T.c_NumberedLine T.n_NumberedLine_start (v := vn start) rfl) ea_nil)) (spL_is fun H' e' => ⟨2, start, rfl, rfl⟩)
      · have e24 := e3.trans e4
        refine q_callM (ev_var rfl) (e24 _ _ o2) rfl (vs := [vn l.place]) (fun _ _ => ea_cons (ev_var rfl) ea_nil) fun H5 e5 => ?_
        have e25 := e24.trans e5
        refine ⟨a, dx, bA, l.place + 1, start, bV, l.turn, awV l.next, l.place, rfl, e25 _ _ o2, fun H6 p f6 hp h6 hpl => ?_⟩
        have ra : r ≠ a := (ne_of_none (e3 _ _ o2) hr).symm
        have pa : p ≠ a := (ne_of_none (e25 _ _ o2) hp).symm
        refine s_ret (ev_var rfl) fun H7 e7 => ?_
        refine kQ H7 r [a, p] (((f2.trans (Fr.of e25)).trans (fA f6)).trans (Fr.of e7)) (fun z hz => ?_) ⟨dx, l.place, Or.inr ⟨p, [], rfl, Nat.zero_le _, rfl, e7 _ _ h6, e7 _ _ hpl⟩, hnx⟩ (e7 _ _ (f6 _ _ (e5 _ _ h4) (by simpa using ra)))
        simp only [List.mem_cons, List.not_mem_nil, or_false] at hz
        rcases hz with rfl | rfl
        · exact Or.inl aL
        · by_cases zl : z ∈ L
          · exact Or.inl zl
          · exact Or.inr ((f2.trans (Fr.of e25)).free hp zl)
    have x2 : ¬ x = 2 := of_decide_eq_false ((u8_is (by decide)).symm.trans b1)
    rcases hcase with ⟨rfl, hp, ht, rfl⟩ | ⟨pA, b, rfl, hp, hb13, rfl, hl⟩
    · -- outside
      rw [num_stray x2 hp] at kQ
      refine q_when (b := true) (et_is (et_test (ev_op (bod e3 rfl) ev_c rv_isN)) rfl) (fun _ H4 e4 => ?_) (fun z _ _ => by cases z)
      refine s_retL (el_call (ea_cons ev_c (ea_cons (ev_var rfl) ea_nil)) (spL_is fun H' e' => ⟨1, l.place, rfl, rfl⟩)) fun r H5 hr e5 h5 => ?_
      have e := (e3.trans e4).trans e5
      exact kQ H5 r [a] (f2.trans (Fr.of e)) (fun z hz => Or.inl hz) ⟨dx, start, Or.inl ⟨hp, rfl, rfl, (e _ _ o2).trans (by rw [ht])⟩, hnx⟩ h5
    have lp := l2 pA b hl
    have pa : pA ≠ a := ne_lst_ins hl ho
    have same : ∀ z ∈ [a, pA], z ∈ [a, pA] ∨ H z = none := fun z hz => Or.inl hz
    have one : ∀ z ∈ [a], z ∈ [a, pA] ∨ H z = none := fun z hz => Or.inl (by
      rw [List.mem_singleton] at hz
      simp [hz])
    refine q_when (b := false) (et_is (et_test (ev_op (bod e3 rfl) ev_c rv_isN)) rfl) (fun z _ _ => by cases z) (fun _ H4 e4 => ?_)
    have e24 := e3.trans e4
    refine q_when (b := l.turn) (et_B (ev_fld (ev_var rfl) (e24 _ _ o2) T.c_NumberedLine T.n_NumberedLine_escaped rfl)) (fun ht H5 e5 => ?_) (fun ht H5 e5 => ?_)
    · -- behind 16
      have e25 := e24.trans e5
      refine v_callM (ev_var rfl) (e25 _ _ o2) rfl (vs := [vn x.toNat]) (fun _ _ => ea_cons (ev_var rfl) ea_nil) fun H6 e6 => ?_
      have e26 := e25.trans e6
      refine ⟨a, dx, bA, l.place + 1, start, pA, l.turn, awV l.next, x, b, rfl, e26 _ _ o2, e26 _ _ lp, hb13, fun he H7 r f7 h7 hr => ?_, fun he hb H7 r f7 h7 hr => ?_, fun he hb H7 r f7 h7 hpl hr => ?_⟩
      · rw [num_esc3 x2 hp ht he] at kQ
        exact kQ H7 r [a] ((f2.trans (Fr.of e26)).trans f7) one ⟨dx, start, Or.inl ⟨rfl, rfl, rfl, h7⟩, hnx⟩ hr
      · rw [num_esc4 x2 hp ht he (by omega)] at kQ
        exact kQ H7 r [a] ((f2.trans (Fr.of e26)).trans f7) one ⟨dx, start, Or.inl ⟨rfl, rfl, rfl, h7⟩, hnx⟩ hr
      · rw [num_esc x2 hp ht he (by omega)] at kQ
        exact kQ H7 r [a, pA] ((f2.trans (Fr.of e26)).trans f7) same ⟨dx, start, Or.inr ⟨pA, b ++ [x ^^^ 32], rfl, by rw [List.length_append]; show b.length + 1 ≤ 13; omega, rfl, h7, hpl⟩, hnx⟩ hr
    have e25 := e24.trans e5
    refine q_when (etN (g := fun n m => decide (n = m)) (n := x.toNat) (m := 3) (ev_var rfl) ev_c trivial) (fun b3 H6 e6 => ?_) (fun b3 H6 e6 => ?_)
    · -- the frame ends
      have x3 : x = 3 := of_decide_eq_true ((u8_is (by decide)).symm.trans b3)
      rw [num_end x3 hp ht] at kQ
      have e26 := e25.trans e6
      refine v_callM (ev_var rfl) (e26 _ _ o2) rfl (vs := []) (fun _ _ => ea_nil) fun H7 e7 => ?_
      have e27 := e26.trans e7
      refine ⟨a, dx, bA, l.place + 1, start, pA, l.turn, l.next, b, k, rfl, e27 _ _ o2, e27 _ _ lp, hb13, hnx, ?_, fun H8 r f8 h8 hr => ?_⟩
      · obtain ⟨bdx, lA, dA, bs, q, nq⟩ := hB.fr (f2.trans (Fr.of e27))
        exact ⟨bdx, lA, dA, bs, q, fun z hz => nq z (by
          rw [List.mem_singleton] at hz
          simp [hz])⟩
      · refine kQ H8 r [a] ((f2.trans (Fr.of e27)).trans (fA f8)) one ⟨dx, start, Or.inl ⟨rfl, rfl, rfl, h8.trans (by rw [ht])⟩, endGot_nx hnx⟩ hr
    have x3 : ¬ x = 3 := of_decide_eq_false ((u8_is (by decide)).symm.trans b3)
    have e26 := e25.trans e6
    refine q_when (etN (g := fun n m => decide (n = m)) (n := x.toNat) (m := 16) (ev_var rfl) ev_c trivial) (fun b4 H7 e7 => ?_) (fun b4 H7 e7 => ?_)
    · -- 16
      have x16 : x = 16 := of_decide_eq_true ((u8_is (by decide)).symm.trans b4)
      rw [num_mark x16 hp ht] at kQ
      have e27 := e26.trans e7
      refine q_fld (y := .bl true) ev_c (ev_var rfl) (e27 _ _ o2) T.c_NumberedLine T.n_NumberedLine_escaped (by show 6 < 1000; decide) fun H8 e8 => ?_
      have o8 : upd H8 a (.ins CNumberedLine dx (putF "escaped" (.bl true) (nlF bA (l.place + 1) start (.ref pA) l.turn (awV l.next)))) a = some (.ins CNumberedLine dx (nlF bA (l.place + 1) start (.ref pA) true (awV l.next))) := upd_same
      have l8 : upd H8 a (.ins CNumberedLine dx (putF "escaped" (.bl true) (nlF bA (l.place + 1) start (.ref pA) l.turn (awV l.next)))) pA = some (.lst (vns (tN b))) := (upd_ne pa).trans ((e27.trans e8) _ _ lp)
      refine s_retL (el_lst ea_nil few) fun r H9 hr e9 h9 => ?_
      exact kQ H9 r [a, pA] (((f2.trans (Fr.of (e27.trans e8))).trans (fa _ _)).trans (Fr.of e9)) same ⟨dx, start, Or.inr ⟨pA, b, hp, hb13, rfl, e9 _ _ o8, e9 _ _ l8⟩, hnx⟩ h9
    · -- a byte of the body
      have x16 : ¬ x = 16 := of_decide_eq_false ((u8_is (by decide)).symm.trans b4)
      have e27 := e26.trans e7
      refine v_callM (ev_var rfl) (e27 _ _ o2) rfl (vs := [vn x.toNat]) (fun _ _ => ea_cons (ev_var rfl) ea_nil) fun H8 e8 => ?_
      have e28 := e27.trans e8
      refine ⟨a, dx, bA, l.place + 1, start, pA, l.turn, awV l.next, x, b, rfl, e28 _ _ o2, e28 _ _ lp, hb13, fun hb H9 r f9 h9 hr => ?_, fun hb H9 r f9 h9 hpl hr => ?_⟩
      · rw [num_put4 x2 x3 x16 hp ht (by omega)] at kQ
        exact kQ H9 r [a] ((f2.trans (Fr.of e28)).trans f9) one ⟨dx, start, Or.inl ⟨rfl, rfl, rfl, h9.trans (by rw [ht])⟩, hnx⟩ hr
      · rw [num_put x2 x3 x16 hp ht (by omega)] at kQ
        exact kQ H9 r [a, pA] ((f2.trans (Fr.of e28)).trans f9) same ⟨dx, start, Or.inr ⟨pA, b ++ [x], rfl, by rw [List.length_append]; show b.length + 1 ≤ 13; omega, rfl, h9.trans (by rw [ht]), hpl⟩, hnx⟩ hr
end
end Kx

-- KHall1
namespace Kx
open PySem PySem.Spec PyProof.Rows L2 Evl KeysCalls

/-! ### events that may come, as the program asks it -/
def evFitL (latest size : Nat) : Nat → List Nat → Bool
  | last, t :: k :: r => if (decide (t < last) || (decide (latest < t) || decide (size ≤ k / 2))) = true then false else evFitL latest size t r
  | _, _ => true
def evFit (ns : List Nat) (earliest latest size : Nat) : Bool := if (decide (ns.length % 2 = 1) || decide (4096 < ns.length / 2)) = true then false else evFitL latest size earliest ns
theorem events_odd : ∀ ns : List Nat, eventsIn ns = none ↔ ns.length % 2 = 1
  | [] => by
    show (some [] = none) ↔ _
    simp
  | [_] => by
    show (none = none) ↔ _
    simp
  | t :: k :: r => by
    have ih := events_odd r
    show ((eventsIn r).map _ = none) ↔ _
    rw [Option.map_eq_none_iff, ih, List.length_cons, List.length_cons]
    omega
theorem evFitL_is (latest size : Nat) : ∀ (ns : List Nat) (last : Nat) (l : List Evt), eventsIn ns = some l → last ≤ latest → latest < Cd.CLOCK → evFitL latest size last ns = CdKeys.comes size last latest l
  | [], last, l, h, h1, h2 => by
    cases h
    show true = (decide (last ≤ latest) && decide (latest < Cd.CLOCK))
    rw [decide_eq_true h1, decide_eq_true h2]
    rfl
  | [_], _, _, h, _, _ => by cases h
  | t :: k :: r, last, l, h, h1, h2 => by
    have h' : (eventsIn r).map (fun l : List Evt => (⟨t, k / 2, k % 2 == 1⟩ : Evt) :: l) = some l := h
    cases hr : eventsIn r with
    | none =>
      rw [hr] at h'
      cases h'
    | some m =>
      rw [hr] at h'
      have el := Option.some.inj h'
      subst el
      unfold evFitL CdKeys.comes
      show _ = (decide (last ≤ t) && (decide (t ≤ latest) && (decide (k / 2 < size) && CdKeys.comes size t latest m)))
      by_cases c1 : t < last
      · rw [decide_eq_true c1, if_pos (by rfl), decide_eq_false (by omega)]
        rfl
      · by_cases c2 : latest < t
        · rw [decide_eq_false c1, decide_eq_true c2, if_pos (by rfl), decide_eq_true (show last ≤ t by omega), decide_eq_false (show ¬ t ≤ latest by omega)]
          rfl
        · by_cases c3 : size ≤ k / 2
          · rw [decide_eq_false c1, decide_eq_false c2, decide_eq_true c3, if_pos (by rfl), decide_eq_true (show last ≤ t by omega), decide_eq_true (show t ≤ latest by omega), decide_eq_false (show ¬ k / 2 < size by omega)]
            rfl
          · rw [decide_eq_false c1, decide_eq_false c2, decide_eq_false c3, if_neg (by decide), decide_eq_true (show last ≤ t by omega), decide_eq_true (show t ≤ latest by omega), decide_eq_true (show k / 2 < size by omega)]
            exact evFitL_is latest size r t m hr (by omega) h2
theorem comes_ends (size : Nat) : ∀ (l : List Evt) (a b : Nat), CdKeys.comes size a b l = true → a ≤ b ∧ b < Cd.CLOCK
  | [], a, b, h => by
    have h' : (decide (a ≤ b) && decide (b < Cd.CLOCK)) = true := h
    rw [Bool.and_eq_true, decide_eq_true_eq, decide_eq_true_eq] at h'
    exact h'
  | e :: r, a, b, h => by
    unfold CdKeys.comes at h
    rw [Bool.and_eq_true, Bool.and_eq_true, Bool.and_eq_true, decide_eq_true_eq, decide_eq_true_eq] at h
    have := comes_ends size r _ _ h.2.2.2
    exact ⟨by omega, this.2⟩
/-- what feed refuses: the program's test against the document's -/
def feedBad (ns : List Nat) (s now size : Nat) : Bool := decide (1099511627776 ≤ now) || (decide (now < s) || !evFit ns s now size)
theorem feedBad_no {ns : List Nat} {s now size : Nat} (h : feedBad ns s now size = false) : ∃ l, eventsIn ns = some l ∧ l.length ≤ 4096 ∧ CdKeys.comes size s now l = true := by
  unfold feedBad at h
  rw [Bool.or_eq_false_iff, Bool.or_eq_false_iff, decide_eq_false_iff_not, decide_eq_false_iff_not, Bool.not_eq_false'] at h
  obtain ⟨h1, h2, h3⟩ := h
  unfold evFit at h3
  by_cases c : (decide (ns.length % 2 = 1) || decide (4096 < ns.length / 2)) = true
  · rw [if_pos c] at h3
    cases h3
  · rw [if_neg c] at h3
    rw [Bool.or_eq_true, decide_eq_true_eq, decide_eq_true_eq] at c
    cases q : eventsIn ns with
    | none => exact absurd (Or.inl ((events_odd ns).mp q)) c
    | some l =>
      have le := evs_length q
      refine ⟨l, rfl, by omega, ?_⟩
      rw [← evFitL_is now size ns s l q (by omega) (show now < 2 ^ 40 by omega)]
      exact h3
theorem feedBad_yes {ns : List Nat} {s now size : Nat} (h : feedBad ns s now size = true) : ∀ l, eventsIn ns = some l → 4096 < l.length ∨ CdKeys.comes size s now l = false := by
  intro l q
  have le := evs_length q
  by_cases c : 4096 < l.length
  · exact Or.inl c
  · refine Or.inr ?_
    cases hc : CdKeys.comes size s now l with
    | false => rfl
    | true =>
      obtain ⟨k1, k2⟩ := comes_ends size l s now hc
      have k2' : now < 1099511627776 := k2
      unfold feedBad at h
      rw [Bool.or_eq_true, Bool.or_eq_true, decide_eq_true_eq, decide_eq_true_eq] at h
      rcases h with h | h | h
      · omega
      · omega
      · exfalso
        have : evFit ns s now size = true := by
          unfold evFit
          rw [if_neg (by
            rw [Bool.or_eq_true, decide_eq_true_eq, decide_eq_true_eq]
            omega), evFitL_is now size ns s l q k1 k2]
          exact hc
        rw [this] at h
        cases h
def fitN (latest size : Nat) : List Nat → Bool
  | t :: k :: r => if (decide (latest < t) || decide (size ≤ k / 2)) = true then false else fitN latest size r
  | _ => true
theorem evFitL_two (latest size : Nat) : ∀ (ns : List Nat) (last : Nat), evFitL latest size last ns = (ordN last ns && fitN latest size ns)
  | [], _ => rfl
  | [_], _ => rfl
  | t :: k :: r, last => by
    have ih := evFitL_two latest size r t
    show (if (decide (t < last) || (decide (latest < t) || decide (size ≤ k / 2))) = true then false else evFitL latest size t r) = ((if t < last then false else ordN t r) && (if (decide (latest < t) || decide (size ≤ k / 2)) = true then false else fitN latest size r))
    rw [ih]
    by_cases c : t < last
    · rw [decide_eq_true c, if_pos c, if_pos (by rfl)]
      rfl
    · rw [decide_eq_false c, if_neg c, Bool.false_or]
      by_cases d : (decide (latest < t) || decide (size ≤ k / 2)) = true
      · rw [if_pos d, if_pos d, Bool.and_false]
      · rw [if_neg d, if_neg d]
theorem evFit_two (ns : List Nat) (earliest latest size : Nat) : evFit ns earliest latest size = if (decide (4096 < ns.length / 2) || !inOrd ns earliest) = true then false else fitN latest size ns := by
  unfold evFit inOrd
  rw [evFitL_two]
  by_cases c : ns.length % 2 = 1
  · rw [decide_eq_true c, if_pos c, if_pos (by rfl), if_pos (by rw [Bool.not_false, Bool.or_true])]
  · rw [decide_eq_false c, if_neg c, Bool.false_or]
    by_cases d : 4096 < ns.length / 2
    · rw [decide_eq_true d, if_pos (by rfl), if_pos (by rfl)]
    · rw [decide_eq_false d, if_neg (by decide), Bool.false_or]
      cases ordN earliest ns with
      | true => rfl
      | false => rfl
theorem fitN_at {latest size : Nat} {ns : List Nat} {i t k : Nat} (h0 : ns[2 * i]? = some t) (h1 : ns[2 * i + 1]? = some k) :
    fitN latest size (ns.drop (2 * i)) = if (decide (latest < t) || decide (size ≤ k / 2)) = true then false else fitN latest size (ns.drop (2 * (i + 1))) := by
  have d0 : ns.drop (2 * i) = t :: k :: ns.drop (2 * (i + 1)) := by
    obtain ⟨l0, e0⟩ := List.getElem?_eq_some_iff.mp h0
    obtain ⟨l1, e1⟩ := List.getElem?_eq_some_iff.mp h1
    rw [List.drop_eq_getElem_cons l0, List.drop_eq_getElem_cons l1, e0, e1, show 2 * i + 1 + 1 = 2 * (i + 1) by omega]
  rw [d0]
  rfl
section
variable {P : Program} {w : World} {K : PySem.W.Frag} {mg : Str → Option Value} {base : Heap} {CBoard CNumberedLine CStrokes CNews CPart CPlainLine CHall : Addr}
def spEventsFit (K : PySem.W.Frag) : Sp := spV fun vs H v => ∃ (a : Addr) (ns : List Nat) (earliest latest size : Nat), vs = [.ref a, vn earliest, vn latest, vn size] ∧ SqL K H a (vns ns) ∧ ns.length ≤ 80000 ∧ v = .bl (evFit ns earliest latest size)
theorem scEventsFit : FnScope ["events", "earliest", "latest", "size", "place"] ["events", "earliest", "latest", "size"] (defScope tEventsFit) := ⟨rfl, rfl, rfl, by decide +kernel, rfl, by decide +kernel, by decide +kernel⟩
theorem ok_events_fit {f f1 : Addr} {fd fd1 : FuncData} (D : Raw K mg "events_fit" tEventsFit f fd) (T : Tx K mg CBoard CNumberedLine CStrokes CNews CPart CPlainLine CHall) (G_in_order : Ok P w K mg base 1 "in_order" ["events", "earliest"] (spInOrder K) f1 fd1) :
    Ok P w K mg base 2 "events_fit" ["events", "earliest", "latest", "size"] (spEventsFit K) f fd := by
  refine ⟨D.fn.ok scEventsFit (fun vs H Q E h => ?_) (fun cdv A outer s H vs Q E hr h => ⟨_,
    (pss_cons (ps_if (PW.pt (pw_or (pt_cmpR on_gt (pe_op on_div (pe_callB call_len_seq (by rfl) T.b_len PySem.boot_len (pa_cons (pv 0) pa_nil)) pe_n) (pe_gi T.g_MOST_EVENTS) (nomark _)) (pw_or1 (pt_not (pt_val (pe_own G_in_order hr (pa_cons (pv 0) (pa_cons (pv 1) pa_nil)))))))) (pss_one (ps_ret pe_bl)) pss_nil)
      (pss_cons (ps_for PassesOwn.never rfl (pi_range3 (by rfl) T.b_range (pa_cons pe_n (pa_cons (pe_callB call_len_seq (by rfl) T.b_len PySem.boot_len (pa_cons (pv 0) pa_nil)) (pa_cons pe_n pa_nil)))) (pg_name (i := 4) scEventsFit.nd rfl (Or.inl rfl)) (pss_one (ps_if (PW.pt (pw_or (pt_cmpR on_gt (pe_ix ix_list (pv 0) (pv 4) (fun _ _ => rfl)) (pv 2) (nomark _)) (pw_or1 (pt_cmpR on_ge (pe_op on_div (pe_ix ix_list (pv 0) (pe_op on_add (pv 4) pe_n) (fun _ _ => rfl)) pe_n) (pv 3) (nomark _))))) (pss_one (ps_ret pe_bl)) pss_nil)))
      (pss_one (ps_ret pe_bl)))), ?_⟩), D.at_, D.fn.kp, D.fn.binds fun _ _ _ _ _ _ us hl => match us, hl with | [_, _, _, _], _ => rfl⟩
  · obtain ⟨v, ⟨a, ns, earliest, latest, size, rfl, _⟩, _⟩ := h
    rfl
  · obtain ⟨v, ⟨a, ns, earliest, latest, size, rfl, hS, hl, rfl⟩, kQ⟩ := h
    have hE := evFit_two ns earliest latest size
    refine q_when (et_or (etN (g := fun n m => decide (m < n)) (n := ns.length / 2) (m := 4096) (evN (n := ns.length) (m := 2) (ev_lenN' (ev_var rfl) hS) ev_n ⟨by decide, by decide⟩) ev_c trivial) fun _ => et_not (et_B (b := inOrd ns earliest) (ev_call (ea_cons (ev_var rfl) (ea_cons (ev_var rfl) ea_nil)) (spV_is fun H' e' => ⟨a, ns, earliest, rfl, ex_l e' hS, hl, rfl⟩)))) (fun b1 H1 e1 => s_ret ev_c fun H2 e2 => ?_) (fun b1 H1 e1 => ?_)
    · rw [hE, if_pos b1] at kQ
      exact kQ H2 (e1.trans e2)
    rw [if_neg (by rw [b1]; decide)] at hE
    rw [Bool.or_eq_false_iff, Bool.not_eq_false'] at b1
    have ev : ¬ ns.length % 2 = 1 := by
      intro z
      have := b1.2
      unfold inOrd at this
      rw [if_pos z] at this
      cases this
    obtain ⟨n, hn⟩ : ∃ n, ns.length = 2 * n := ⟨ns.length / 2, by omega⟩
    refine q_forC2 (n := n) (j := 4) (ea_cons ev_n (ea_cons (ev_is (ev_lenN' (ev_var rfl) (ex_l e1 hS)) (by rw [hn])) (ea_cons ev_n ea_nil))) (by omega)
      (fun i σ' H' => ∃ v4 : Option V, σ' = [some (.ref a), some (vn earliest), some (vn latest), some (vn size), v4] ∧ Evl.Ex H H' ∧ evFit ns earliest latest size = fitN latest size (ns.drop (2 * i)))
      (fun H3 e3 => ⟨none, rfl, e1.trans e3, by rw [hE]; rfl⟩) (fun i σ' H' hi => ?_) (fun σ' H' => ?_)
    · rintro ⟨v4, rfl, e4, hv⟩
      have g0 : ns[2 * i]? = some (lx ns (2 * i)) := by rw [List.getElem?_eq_getElem (by omega), lx_get]
      have g1 : ns[2 * i + 1]? = some (lx ns (2 * i + 1)) := by rw [List.getElem?_eq_getElem (by omega), lx_get]
      rw [fitN_at g0 g1] at hv
      refine s_when (et_or (etN (g := fun n m => decide (m < n)) (ev_ixN (ev_var rfl) (ev_var rfl) (ex_l e4 hS) g0) (ev_var rfl) trivial) fun _ => etN (g := fun n m => decide (m ≤ n)) (evN (ev_ixN (ev_var rfl) (evN (ev_var rfl) ev_n trivial) (ex_l e4 hS) g1) ev_n ⟨by decide, by decide⟩) (ev_var rfl) trivial) (fun b2 H6 e6 => s_ret ev_c fun H7 e7 => ?_) (fun b2 H6 e6 => ?_)
      · rw [if_pos b2] at hv
        rw [hv] at kQ
        exact kQ H7 ((e4.trans e6).trans e7)
      · rw [if_neg (by rw [b2]; decide)] at hv
        exact ⟨_, rfl, e4.trans e6, hv⟩
    · rintro ⟨v4, rfl, e4, hv⟩
      rw [← hn, List.drop_length] at hv
      refine s_ret ev_c fun H5 e5 => ?_
      have : evFit ns earliest latest size = true := hv
      rw [this] at kQ
      exact kQ H5 (e4.trans e5)
end
end Kx

-- XHall
namespace Kx
open CdKeys KeysCalls

/-! ### what feed asks of the news that wait -/
theorem waits_all (p : Policy) (l l' : List Event) (now : Nat) : (newsM p l now).waits ++ (chIn p.bounce (newsM p l now).pressed (newsM p l now).ups l').1 = (tagC p.bounce noUps (changes 0 (l ++ l'))).drop (sure p.bounce now (tagC p.bounce noUps (changes 0 l))) := by
  rw [chIn_is, changes_append, tagC_append, List.drop_append_of_le_length (sure_le _ _ _), ← sieve_waits, ← heldBy_eq]
  rfl
theorem waits_ok (p : Policy) (l l' : List Event) (now : Nat) (hk : ∀ e ∈ l ++ l', e.key ≤ 1000) : Ud ((newsM p l now).waits ++ (chIn p.bounce (newsM p l now).pressed (newsM p l now).ups l').1) ∧
    ∀ x ∈ (newsM p l now).waits ++ (chIn p.bounce (newsM p l now).pressed (newsM p l now).ups l').1, x.1.key ≤ 1000 := by
  rw [waits_all]
  refine ⟨ud_drop _ _ (ud_tag _ _ _ _ (alt_changes _ 0)), fun x hx => ?_⟩
  have h1 := List.mem_of_mem_drop hx
  have h2 : x.1 ∈ (tagC p.bounce noUps (changes 0 (l ++ l'))).map (fun x => x.1) := List.mem_map.mpr ⟨x, h1, rfl⟩
  rw [tagC_fst] at h2
  exact hk _ ((changes_sub _ _).subset h2)
/-- a keyboard's desk as it should stand -/
structure DeskOk (d : Desk) : Prop where
  ord : Ordered d.news d.now
  keys : ∀ e ∈ d.news, e.key < d.keyboard.size
  size : d.keyboard.size ≤ 48
  kok : d.keyboard.ok = true
  told : d.told = (strokesOf d.policy d.news d.now).length
  few : (newsM d.policy d.news d.now).waits.length ≤ 1024
theorem comes_keys (size : Nat) (l : List Event) (a b : Nat) (h : comes size a b l = true) : ∀ e ∈ l, e.key < size := by
  obtain ⟨_, _, hl, _⟩ := comes_spec size l a b h
  exact fun e he => (hl e he).2.2
theorem DeskOk.fed {d : Desk} {l : List Event} {now : Nat} (h : DeskOk d) (hc : comes d.keyboard.size d.now now l = true) (hw : ¬ WAIT < (waiting d.policy (d.news ++ l) now).length) :
    DeskOk { d with news := d.news ++ l, now := now, told := (strokesOf d.policy (d.news ++ l) now).length } := by
  obtain ⟨hn, _, hl, so⟩ := comes_spec _ l _ _ hc
  refine ⟨ordered_append h.ord hn (fun e he => ⟨(hl e he).1, (hl e he).2.1⟩) so, fun e he => ?_, h.size, h.kok, rfl, ?_⟩
  · rcases List.mem_append.mp he with q | q
    · exact h.keys e q
    · exact (hl e q).2.2
  · rw [waiting_sv] at hw
    have : WAIT = 1024 := rfl
    show (sv d.policy (d.news ++ l) now).2.length ≤ 1024
    omega
theorem DeskOk.anew {d : Desk} (h : DeskOk d) (p : Policy) : DeskOk { d with policy := p, news := [], told := 0 } := by
  refine ⟨⟨.nil, fun e he => (by cases he)⟩, fun e he => (by cases he), h.size, h.kok, ?_, ?_⟩
  · show 0 = (strokesOf p [] d.now).length
    rw [strokes_nil]
    rfl
  · show (newsM p [] d.now).waits.length ≤ 1024
    rw [newsM_nil]
    decide
theorem desk_begun {k : Keyboard} (h : k.size ≤ 48) (ho : k.ok = true) : DeskOk ⟨k, ⟨0, 0, 1⟩, [], 0, 0, 0, fresh⟩ := by
  refine ⟨⟨.nil, fun e he => (by cases he)⟩, fun e he => (by cases he), h, ho, ?_, ?_⟩
  · show 0 = (strokesOf ⟨0, 0, 1⟩ [] 0).length
    rw [strokes_nil]
    rfl
  · show (newsM ⟨0, 0, 1⟩ [] 0).waits.length ≤ 1024
    rw [newsM_nil]
    decide
end Kx

-- KHall2
/-! Hall: how it lies in the heap, what its methods are asked to keep. -/
namespace Kx
open PySem PySem.Spec PyProof.Rows L2 Evl KeysCalls

/-- an answer as values -/
def ansV (x : Answer) : List V := .int x.code :: (x.told.flatMap KeysNeutral.toldInts).map V.int
def hF (bV nV : V) (now : Nat) (xV : V) : List (Str × V) := [("board", bV), ("news", nV), ("now", vn now), ("wire", xV)]
structure DeskW (CH CB CN CS CP CM : Addr) (H : Hp) (a : Addr) (d : Desk) (S : List Addr) (dx bA nA bdx lA dA : Addr) (bs : List Addr) (ndx uA wA sA sdx mA : Addr) (as : List Addr) (xA : Addr) (L : List Addr) : Prop where
  ob : H a = some (.ins CH dx (hF (.ref bA) (.ref nA) d.now (.ref xA)))
  bd : BoardAt CB H bA d.keyboard bdx lA dA bs
  nw : NewsAt CN CS H nA d.policy (newsM d.policy d.news d.now) d.news.length ndx uA wA sA sdx mA as
  ok : DeskOk d
  ln : LineAt CP CM H xA d.which d.line bA L
  own : S = (a :: nA :: sA :: mA :: wA :: lA :: dA :: bs) ++ L
  lm : lA ≠ mA
  dm : dA ≠ mA
  bm : mA ∉ bs
  dj : ∀ b ∈ L, b ∉ bA :: a :: nA :: sA :: mA :: wA :: lA :: dA :: bs
def HallAt (CH CB CN CS CP CM : Addr) (H : Hp) (a : Addr) : State → List Addr → Prop
  | none, S => S = [a] ∧ ∃ dx, H a = some (.ins CH dx (hF .non .non 0 .non))
  | some d, S => ∃ dx bA nA bdx lA dA bs ndx uA wA sA sdx mA as xA L, DeskW CH CB CN CS CP CM H a d S dx bA nA bdx lA dA bs ndx uA wA sA sdx mA as xA L
/-- what a call does: the object's state, its own addresses, a list for its answer -/
def HallDoes (CH CB CN CS CP CM : Addr) (H : Hp) (a : Addr) (S : List Addr) (s : State) (x : Answer) (Q : VK) : Prop :=
  ∀ (H' : Hp) (r : Addr) (S' : List Addr), Fr S H H' → (∀ b ∈ S', b ∈ S ∨ H b = none) → HallAt CH CB CN CS CP CM H' a s S' → H' r = some (.lst (ansV x)) → Q (.ref r) H'
section
variable {CH CB CN CS CP CM : Addr} {H H' : Hp} {a : Addr} {s : State} {S : List Addr}
theorem HallAt.ins (h : HallAt CH CB CN CS CP CM H a s S) : a ∈ S ∧ ∃ dx bV nV now xV, H a = some (.ins CH dx (hF bV nV now xV)) := by
  cases s with
  | none =>
    obtain ⟨rfl, dx, h⟩ := h
    exact ⟨by simp, dx, _, _, _, _, h⟩
  | some d =>
    obtain ⟨dx, bA, nA, bdx, lA, dA, bs, ndx, uA, wA, sA, sdx, mA, as, xA, L, h⟩ := h
    exact ⟨by rw [h.own]; simp, dx, _, _, _, _, h.ob⟩
theorem DeskW.ex {d : Desk} {dx bA nA bdx lA dA : Addr} {bs : List Addr} {ndx uA wA sA sdx mA : Addr} {as : List Addr} {xA : Addr} {L : List Addr} (e : Evl.Ex H H') (h : DeskW CH CB CN CS CP CM H a d S dx bA nA bdx lA dA bs ndx uA wA sA sdx mA as xA L) : DeskW CH CB CN CS CP CM H' a d S dx bA nA bdx lA dA bs ndx uA wA sA sdx mA as xA L :=
  ⟨e _ _ h.ob, h.bd.ex e, h.nw.ex e, h.ok, h.ln.ex e, h.own, h.lm, h.dm, h.bm, h.dj⟩
theorem HallAt.ex (e : Evl.Ex H H') (h : HallAt CH CB CN CS CP CM H a s S) : HallAt CH CB CN CS CP CM H' a s S := by
  cases s with
  | none =>
    obtain ⟨rfl, dx, h⟩ := h
    exact ⟨rfl, dx, e _ _ h⟩
  | some d =>
    obtain ⟨dx, bA, nA, bdx, lA, dA, bs, ndx, uA, wA, sA, sdx, mA, as, xA, L, h⟩ := h
    exact ⟨dx, bA, nA, bdx, lA, dA, bs, ndx, uA, wA, sA, sdx, mA, as, xA, L, h.ex e⟩
theorem NewsAt.fr {T : List Addr} {nA : Addr} {p : CdKeys.Policy} {m : NewsM} {n : Nat} {dx uA wA sA sdx mA : Addr} {as : List Addr} (f : Fr T H H') (h : NewsAt CN CS H nA p m n dx uA wA sA sdx mA as)
    (n1 : nA ∉ T) (n2 : uA ∉ T) (n3 : wA ∉ T) (n4 : sA ∉ T) (n5 : mA ∉ T) (nt : ∀ t ∈ T, ∀ xs, H t ≠ some (.tup xs)) : NewsAt CN CS H' nA p m n dx uA wA sA sdx mA as :=
  ⟨f _ _ h.ob n1, h.ups.fr f n2, ⟨f _ _ h.ws.1 n3, h.ws.2.fr f nt⟩, h.st.fr f n4 n5⟩
/-- a list of another's may change -/
theorem HallAt.fr {T : List Addr} (h : HallAt CH CB CN CS CP CM H a s S) (f : Fr T H H') (n : ∀ t ∈ T, t ∉ S ∧ ∃ xs, H t = some (.lst xs)) : HallAt CH CB CN CS CP CM H' a s S := by
  have mem : ∀ x ∈ S, x ∉ T := fun x hx hT => (n x hT).1 hx
  have kind : ∀ x o, H x = some o → (∀ xs, o ≠ .lst xs) → x ∉ T := fun x o hx ho hT => by
    obtain ⟨_, xs, q⟩ := n x hT
    rw [hx] at q
    exact ho xs (Option.some.inj q)
  cases s with
  | none =>
    obtain ⟨rfl, dx, h⟩ := h
    exact ⟨rfl, dx, f _ _ h (kind _ _ h fun _ z => by cases z)⟩
  | some d =>
    obtain ⟨dx, bA, nA, bdx, lA, dA, bs, ndx, uA, wA, sA, sdx, mA, as, xA, L, h⟩ := h
    have mS : ∀ x ∈ (a :: nA :: sA :: mA :: wA :: lA :: dA :: bs) ++ L, x ∉ T := by
      rw [← h.own]
      exact mem
    refine ⟨dx, bA, nA, bdx, lA, dA, bs, ndx, uA, wA, sA, sdx, mA, as, xA, L, f _ _ h.ob (mS _ (by simp)), h.bd.fr f (kind _ _ h.bd.ob fun _ z => by cases z) (mS _ (by simp)) (mS _ (by simp)) (fun b hb => mS _ (by simp [hb])), ?_, h.ok, h.ln.fr f (fun b hb => mS _ (List.mem_append_right _ hb)), h.own, h.lm, h.dm, h.bm, h.dj⟩
    refine h.nw.fr f (mS _ (by simp)) ?_ (mS _ (by simp)) (mS _ (by simp)) (mS _ (by simp)) fun t hT xs q => ?_
    · obtain ⟨kvs, g, _⟩ := h.nw.ups
      exact kind _ _ g fun _ z => by cases z
    · obtain ⟨_, ys, q'⟩ := n t hT
      rw [q] at q'
      cases q'
end
section
variable {P : Program} {w : World} {K : PySem.W.Frag} {mg : Str → Option Value} {base : Heap} {CBoard CNumberedLine CStrokes CNews CPart CPlainLine CHall : Addr}
theorem el_neg1 {σ : L2.St} {H : Hp} {n : Nat} : EvL (tLst (tCons (tUn (rU fun i => .int (-i)) (tC (vn n))) tNil)) σ H [.int (-(n : Int))] := el_lst (ea_cons (ev_un ev_n ru_neg) ea_nil) few
/-! ### Hall.__init__ -/
def spHallInit (CH CB CN CS CP CM : Addr) : Sp := fun vs H Q _ => ∃ (a dx : Addr), vs = [.ref a] ∧ H a = some (.ins CH dx []) ∧ ∀ H', Fr [a] H H' → HallAt CH CB CN CS CP CM H' a none [a] → Q .non H'
theorem scHallInit : FnScope ["self"] ["self"] (defScope tHallInit) := ⟨rfl, rfl, rfl, by decide +kernel, rfl, by decide +kernel, by decide +kernel⟩
theorem ok_Hall_init {f : Addr} {fd : FuncData} (D : Fun K "__init__" "Hall.__init__" tHallInit f fd) (T : Tx K mg CBoard CNumberedLine CStrokes CNews CPart CPlainLine CHall) : FnOk P w K mg base CX0 1 f fd ["self"] (spHallInit CHall CBoard CNews CStrokes CPlainLine CNumberedLine) := by
  refine D.ok scHallInit (fun vs H Q E h => ?_) (fun cdv A outer s H vs Q E hr h => ⟨_,
    (pss_cons (ps_fld (pv 0) pe_non rfl)
      (pss_cons (ps_fld (pv 0) pe_non rfl)
      (pss_cons (ps_fld (pv 0) pe_n rfl)
      (pss_one (ps_fld (pv 0) pe_non rfl))))), ?_⟩)
  · obtain ⟨a, dx, rfl, _⟩ := h
    rfl
  · obtain ⟨a, dx, rfl, ho, k⟩ := h
    have fa : ∀ (H : Hp) (o : HO), Fr [a] H (upd H a o) := fun H o => Fr.upd (by simp)
    refine q_fld ev_c (ev_var rfl) ho T.c_Hall T.n_Hall_board (by show 0 < 1000; decide) fun H1 e1 => ?_
    refine q_fld ev_c (ev_var rfl) upd_same T.c_Hall T.n_Hall_news (by show 1 < 1000; decide) fun H2 e2 => ?_
    refine q_fld ev_n (ev_var rfl) upd_same T.c_Hall T.n_Hall_now (by show 2 < 1000; decide) fun H3 e3 => ?_
    refine s_fld ev_c (ev_var rfl) upd_same T.c_Hall T.n_Hall_wire (by show 3 < 1000; decide) fun H4 e4 => ?_
    exact k _ (((((((Fr.of e1).trans (fa _ _)).trans (Fr.of e2)).trans (fa _ _)).trans (Fr.of e3)).trans (fa _ _)).trans ((Fr.of e4).trans (fa _ _))) ⟨rfl, dx, upd_same⟩

/-! ### held -/
def spHallHeld (CH CB CN CS CP CM : Addr) : Sp := fun vs H Q _ => ∃ (a : Addr) (d : Desk) (S : List Addr), vs = [.ref a] ∧ HallAt CH CB CN CS CP CM H a (some d) S ∧ HallDoes CH CB CN CS CP CM H a S (some (onDesk d .held).1) (onDesk d .held).2 Q
theorem scHallHeld : FnScope ["self"] ["self"] (defScope tHallHeld) := ⟨rfl, rfl, rfl, by decide +kernel, rfl, by decide +kernel, by decide +kernel⟩
theorem ok_Hall_held {f : Addr} {fd : FuncData} (D : RawM K CHall "held" "Hall.held" tHallHeld f fd) (T : Tx K mg CBoard CNumberedLine CStrokes CNews CPart CPlainLine CHall) : OkM P w K mg base 1 CHall "held" ["self"] (spHallHeld CHall CBoard CNews CStrokes CPlainLine CNumberedLine) f fd := by
  refine ⟨D.fn.ok scHallHeld (fun vs H Q E h => ?_) (fun cdv A outer s H vs Q E hr h => ⟨_,
    (pss_one (ps_ret (pe_lst (pa_cons pe_n (pa_cons (pe_fld (pe_fld (pv 0) rfl) rfl) pa_nil))))), ?_⟩), D.at_, D.fn.binds fun _ _ _ _ _ _ us hl => match us, hl with | [_], _ => rfl⟩
  · obtain ⟨a, d, S, rfl, _⟩ := h
    rfl
  · obtain ⟨a, d, S, rfl, hH, k⟩ := h
    obtain ⟨dx, bA, nA, bdx, lA, dA, bs, ndx, uA, wA, sA, sdx, mA, as, xA, L, h⟩ := id hH
    refine s_retL (el_lst (ea_cons ev_n (ea_cons (ev_fld (ev_fld (ev_var rfl) h.ob T.c_Hall T.n_Hall_news (v := .ref nA) rfl) h.nw.ob T.c_News T.n_News_pressed (v := vn (newsM d.policy d.news d.now).pressed) rfl) ea_nil)) few) fun r H1 hr e1 h1 => ?_
    exact k H1 r S (Fr.of e1) (fun b hb => Or.inl hb) (hH.ex e1) h1

/-! ### policy -/
def spHallPolicy (CH CB CN CS CP CM : Addr) : Sp := fun vs H Q _ => ∃ (a : Addr) (way bounce gap : Nat) (d : Desk) (S : List Addr), vs = [.ref a, vn way, vn bounce, vn gap] ∧ HallAt CH CB CN CS CP CM H a (some d) S ∧
  HallDoes CH CB CN CS CP CM H a S (some (onDesk d (.policy way bounce gap)).1) (onDesk d (.policy way bounce gap)).2 Q
theorem scHallPolicy : FnScope ["self", "way", "bounce", "gap"] ["self", "way", "bounce", "gap"] (defScope tHallPolicy) := ⟨rfl, rfl, rfl, by decide +kernel, rfl, by decide +kernel, by decide +kernel⟩
theorem policyOk (w b g : Nat) : (⟨w, b, g⟩ : CdKeys.Policy).ok = !(decide (2 < w) || (decide (1000 < b) || !(decide (1 ≤ g) && decide (g ≤ 10000)))) := by
  show (decide (w ≤ 2) && (decide (b ≤ 1000) && (decide (1 ≤ g) && decide (g ≤ 10000)))) = _
  have e1 : decide (2 < w) = !decide (w ≤ 2) := by
    rw [← decide_not]
    exact dec_eq (by omega)
  have e2 : decide (1000 < b) = !decide (b ≤ 1000) := by
    rw [← decide_not]
    exact dec_eq (by omega)
  rw [e1, e2]
  cases decide (w ≤ 2) <;> cases decide (b ≤ 1000) <;> cases decide (1 ≤ g) <;> cases decide (g ≤ 10000) <;> rfl
theorem ok_Hall_policy {f f1 : Addr} {fd fd1 : FuncData} (D : RawM K CHall "policy" "Hall.policy" tHallPolicy f fd) (T : Tx K mg CBoard CNumberedLine CStrokes CNews CPart CPlainLine CHall) (G_News : OkC P w K mg base 3 "News" CNews ["self", "way", "bounce", "gap"] (spNewsInit CNews CStrokes) f1 fd1) :
    OkM P w K mg base 5 CHall "policy" ["self", "way", "bounce", "gap"] (spHallPolicy CHall CBoard CNews CStrokes CPlainLine CNumberedLine) f fd := by
  refine ⟨D.fn.ok scHallPolicy (fun vs H Q E h => ?_) (fun cdv A outer s H vs Q E hr h => ⟨_,
    (pss_cons (ps_if (PW.pt (pw_or (pt_cmpR on_gt (pv 1) (pe_gi T.g_LAST_WAY) (nomark _)) (pw_or (pt_cmpR on_gt (pv 2) (pe_gi T.g_MOST_BOUNCE) (nomark _)) (pw_or1 (pt_not (pt_chain on_le on_le pe_n (pv 3) (pe_gi T.g_MOST_GAP))))))) (pss_one (ps_ret (pe_lst (pa_cons (pe_un un_neg pe_n) pa_nil)))) pss_nil)
      (pss_cons (ps_fld (pv 0) (pe_mkOwn G_News hr (pa_cons (pv 1) (pa_cons (pv 2) (pa_cons (pv 3) pa_nil)))) rfl)
      (pss_one (ps_ret (pe_lst (pa_cons pe_n pa_nil)))))), ?_⟩), D.at_, D.fn.binds fun _ _ _ _ _ _ us hl => match us, hl with | [_, _, _, _], _ => rfl⟩
  · obtain ⟨a, way, bounce, gap, d, S, rfl, _⟩ := h
    rfl
  · obtain ⟨a, way, bounce, gap, d, S, rfl, hH, k⟩ := h
    obtain ⟨dx, bA, nA, bdx, lA, dA, bs, ndx, uA, wA, sA, sdx, mA, as, xA, L, h⟩ := id hH
    have pk := policyOk way bounce gap
    refine q_when (et_or (etN (g := fun n m => decide (m < n)) (ev_var rfl) ev_c trivial) fun _ => et_or (etN (g := fun n m => decide (m < n)) (ev_var rfl) ev_c trivial) fun _ => et_not (et_test (ev_chain ev_n (ev_var rfl) ev_c))) (fun b1 H1 e1 => ?_) (fun b1 H1 e1 => ?_)
    · rw [b1] at pk
      have st : onDesk d (.policy way bounce gap) = (d, BAD) := if_neg (by rw [pk]; decide)
      rw [st] at k
      refine s_retL el_neg1 fun r H2 hr e2 h2 => ?_
      exact k H2 r S (Fr.of (e1.trans e2)) (fun b hb => Or.inl hb) (hH.ex (e1.trans e2)) h2
    · rw [b1] at pk
      have st : onDesk d (.policy way bounce gap) = ({ d with policy := ⟨way, bounce, gap⟩, news := [], told := 0 }, says 0) := if_pos pk
      rw [st] at k
      have aS : a ∈ S := hH.ins.1
      refine q_fldM (a := a) (ea_cons (ev_var rfl) (ea_cons (ev_var rfl) (ea_cons (ev_var rfl) ea_nil))) (fun _ _ => ev_var rfl) fun x xd H2 e2 hx hxd nx => ?_
      have bx := born_ex (C := CNews) hx hxd nx
      refine ⟨x, xd, ⟨way, bounce, gap⟩, rfl, born_at, fun H3 uA' wA' sA' sdx' mA' f3 hs hm hw n3 => ⟨rfl, ?_⟩⟩
      have e02 := e1.trans e2
      have ax : a ≠ x := by
        rintro rfl
        rw [e02 _ _ h.ob] at hx
        cases hx
      have xH : H x = none := fresh_back e02 hx
      have frx : ∀ b o, H b = some o → H3 b = some o := fun b o q => f3 _ _ (bx _ _ (e02 _ _ q)) (by
        intro z
        rw [List.mem_singleton] at z
        subst z
        rw [xH] at q
        cases q)
      have sH : H sA' = none := fresh_back (e02.trans bx) hs
      have mH : H mA' = none := fresh_back (e02.trans bx) hm
      have wH : H wA' = none := fresh_back (e02.trans bx) hw
      have o3 := frx _ _ h.ob
      refine ⟨.ref a, rfl, a, CHall, dx, _, rfl, o3, T.c_Hall, T.n_Hall_news, (by show 4 < 1000; decide), ?_⟩
      have fa : ∀ (H : Hp) (o : HO), Fr [a] H (upd H a o) := fun H o => Fr.upd (by simp)
      have d4 : DeskW CHall CBoard CNews CStrokes CPlainLine CNumberedLine (upd H3 a (.ins CHall dx (putF "news" (.ref x) (hF (.ref bA) (.ref nA) d.now (.ref xA))))) a { d with policy := ⟨way, bounce, gap⟩, news := [], told := 0 } ((a :: x :: sA' :: mA' :: wA' :: lA :: dA :: bs) ++ L) dx bA x bdx lA dA bs xd uA' wA' sA' sdx' mA' [] xA L := by
        have na : ∀ b o, H b = some o → (∀ C dx fs, o ≠ HO.ins C dx fs) → b ∉ [a] := fun b o q no z => by
          rw [List.mem_singleton] at z
          subst z
          rw [h.ob] at q
          exact no _ _ _ (Option.some.inj q).symm
        have b3 : BoardAt CBoard H3 bA d.keyboard bdx lA dA bs := h.bd.ex frx
        have rows := h.bd.rows
        have inb : ∀ b ∈ bs, ∃ xs, H b = some (.lst xs) := by
          intro b hb
          have : ∀ (as : List Addr) (r : List (List Nat)), RowsAt H as r → b ∈ as → ∃ xs, H b = some (.lst xs) := by
            intro as
            induction as with
            | nil =>
              intro r _ z
              cases z
            | cons y ys ih =>
              intro r hr z
              cases r with
              | nil => exact hr.elim
              | cons r1 r2 =>
                rcases List.mem_cons.mp z with q | q
                · subst q
                  exact ⟨_, hr.1⟩
                · exact ih _ hr.2 q
          exact this _ _ rows hb
        refine ⟨upd_same, b3.fr (fa _ _) ?_ (na _ _ h.bd.ls fun _ _ _ z => by cases z) (na _ _ h.bd.ds fun _ _ _ z => by cases z) (fun b hb => ?_), ?_, h.ok.anew _, (h.ln.ex frx).fr (fa _ _) (fun b hb z => h.dj b hb (by
          rw [List.mem_singleton] at z
          simp [z])), rfl, ?_, ?_, ?_, ?_⟩
        · rw [List.mem_singleton]
          exact ne_cls h.bd.ob h.ob T.d_Board_Hall
        · obtain ⟨xs, q⟩ := inb b hb
          exact na _ _ q fun _ _ _ z => by cases z
        · have nm : newsM (⟨way, bounce, gap⟩ : CdKeys.Policy) [] d.now = newsM0 := newsM_nil _ _
          show NewsAt CNews CStrokes _ x ⟨way, bounce, gap⟩ (newsM ⟨way, bounce, gap⟩ [] d.now) 0 xd uA' wA' sA' sdx' mA' []
          rw [nm]
          have ndk : uA' ≠ a := by
            obtain ⟨kvs, g, _⟩ := n3.ups
            exact ne_dk_ins g o3
          refine n3.fr (fa _ _) (by simpa using ax.symm) (by simpa using ndk) (by simpa using ne_lst_ins n3.ws.1 o3) ?_ (by simpa using ne_lst_ins n3.st.ls o3) ?_
          · rw [List.mem_singleton]
            exact ne_cls n3.st.ob o3 T.d_Strokes_Hall
          · intro t ht xs q
            rw [List.mem_singleton] at ht
            subst ht
            rw [o3] at q
            cases q
        · rintro rfl
          rw [h.bd.ls] at mH
          cases mH
        · rintro rfl
          rw [h.bd.ds] at mH
          cases mH
        · intro z
          obtain ⟨xs, q⟩ := inb _ z
          rw [mH] at q
          cases q
        · intro b hb z
          have kb := h.ln.known b hb
          have old := h.dj b hb
          simp only [List.mem_cons, not_or] at old z
          rcases z with z | z | z | z | z | z | z | z | z
          · exact old.1 z
          · exact old.2.1 z
          · exact kb (by rw [z]; exact xH)
          · exact kb (by rw [z]; exact sH)
          · exact kb (by rw [z]; exact mH)
          · exact kb (by rw [z]; exact wH)
          · exact old.2.2.2.2.2.2.1 z
          · exact old.2.2.2.2.2.2.2.1 z
          · exact old.2.2.2.2.2.2.2.2 z
      refine s_retL (el_lst (ea_cons ev_n ea_nil) few) fun r H4 hr e4 h4 => ?_
      refine k H4 r _ ?_ (fun b hb => ?_) (HallAt.ex e4 ⟨_, _, _, _, _, _, _, _, _, _, _, _, _, _, _, _, d4⟩) h4
      · intro b o q nb
        refine e4 _ _ ((upd_ne ?_).trans (frx _ _ q))
        rintro rfl
        exact nb aS
      · rw [h.own]
        by_cases hbL : b ∈ L
        · exact Or.inl (List.mem_append_right _ hbL)
        have hb := (List.mem_append.mp hb).resolve_right hbL
        simp only [List.mem_cons] at hb
        rcases hb with q | q | q | q | q | q | q | q
        · subst q
          exact Or.inl (by simp)
        · subst q
          exact Or.inr xH
        · subst q
          exact Or.inr sH
        · subst q
          exact Or.inr mH
        · subst q
          exact Or.inr wH
        · subst q
          exact Or.inl (by simp)
        · subst q
          exact Or.inl (by simp)
        · exact Or.inl (by simp [q])
end
end Kx

-- KHall3
/-! Hall: begin, feed, write, read. -/
namespace Kx
open PySem PySem.Spec PyProof.Rows L2 Evl KeysCalls

theorem rows_lst {H : Hp} {b : Addr} : ∀ {as : List Addr} {r : List (List Nat)}, RowsAt H as r → b ∈ as → ∃ xs, H b = some (.lst xs)
  | [], _, _, z => by cases z
  | y :: ys, [], h, _ => h.elim
  | y :: ys, r1 :: r2, h, z => by
    rcases List.mem_cons.mp z with q | q
    · subst q
      exact ⟨_, h.1⟩
    · exact rows_lst h.2 q
section
variable {σ : L2.St} {H : Hp} {ta te : TE} {t : TA} {x v : V} {a C dx : Addr} {fs : List (Str × V)} {m : Str} {sp : Sp} {E : XK} {vs xs ys : List V} {D : Ends} {tz : TS}
theorem q_callMA {i : Nat} (ha : Ev ta σ H (.ref a)) (ho : H a = some (.ins C dx fs)) (hm : fs.lookup m = none) (hv : ∀ H1, Evl.Ex H H1 → EvA t σ H1 vs) (k : ∀ H1, Evl.Ex H H1 → sp (.ref a :: (vs ++ [])) H1 (fun x H2 => tz D (σ.set i (some x)) H2) E) :
    tSeq (tAsg (tMeth C m sp [] E ta t) (gName i)) tz D σ H := ha H (Evl.Ex.refl H) _ fun H1 e1 => ⟨a, dx, fs, rfl, e1 _ _ ho, hm, hv H1 e1 H1 (Evl.Ex.refl _) _ fun H2 e2 => k H2 (e1.trans e2)⟩
theorem el_callL1 (h : EvL te σ H xs) (hs : ∀ p H1, Evl.Ex H H1 → H1 p = some (.lst xs) → SpL sp [.ref p] H1 ys) : EvL (tCall sp [] E (tCons te tNil)) σ H ys := fun H1 e Q q =>
  h H1 e _ fun p H2 hp e2 h2 => hs p H2 (e.trans e2) h2 H2 (Evl.Ex.refl _) Q (fun r H3 hr e3 h3 => q r H3 (fresh_back e2 hr) (e2.trans e3) h3) E
end
theorem step_begin (s : State) (l g : List Nat) (a b r : Nat) : KeysCalls.step s (.begin_ l g a b r) = if l.length = g.length ∧ r ≤ 1 ∧ (keyboardOf l g a b r).ok = true then (some ⟨keyboardOf l g a b r, ⟨0, 0, 1⟩, [], 0, 0, 0, CdKeys.fresh⟩, says 0) else (s, BAD) := rfl
theorem ansV_list (l : List Nat) : ansV (tells [.l l]) = V.int 0 :: vns (cntd l) := by
  unfold ansV tells cntd vns
  show V.int 0 :: (((l.length : Int) :: l.map fun (n : Nat) => (n : Int)) ++ []).map V.int = _
  rw [List.append_nil, List.map_cons, List.map_map]
  rfl
theorem ansV_bytes (b : Cd.Bytes) : ansV (tells [.t b]) = V.int 0 :: vns (cntd (b.map UInt8.toNat)) := by
  unfold ansV tells cntd vns
  show V.int 0 :: (((b.length : Int) :: b.map fun (c : UInt8) => (c.toNat : Int)) ++ []).map V.int = _
  rw [List.append_nil, List.map_cons, List.map_map, List.map_cons, List.map_map, List.length_map]
  rfl
section
variable {P : Program} {w : World} {K : PySem.W.Frag} {mg : Str → Option Value} {base : Heap} {CBoard CNumberedLine CStrokes CNews CPart CPlainLine CHall : Addr}
/-! ### begin -/
def spHallBegin (K : PySem.W.Frag) (CH CB CN CS CP CM : Addr) : Sp := fun vs H Q _ => ∃ (a la da left middle bar : Nat) (labels digits : List Nat) (s : State) (S : List Addr), vs = [.ref a, vn left, vn middle, vn bar, .ref la, .ref da] ∧ HallAt CH CB CN CS CP CM H a s S ∧ SqL K H la (vns labels) ∧ SqL K H da (vns digits) ∧
  HallDoes CH CB CN CS CP CM H a S (KeysCalls.step s (.begin_ labels digits left middle bar)).1 (KeysCalls.step s (.begin_ labels digits left middle bar)).2 Q
theorem scHallBegin : FnScope ["self", "left", "middle", "bar", "labels", "digits"] ["self", "left", "middle", "bar", "labels", "digits"] (defScope tHallBegin) := ⟨rfl, rfl, rfl, by decide +kernel, rfl, by decide +kernel, by decide +kernel⟩
theorem ok_Hall_begin {f f1 f2 f3 f4 : Addr} {fd fd1 fd2 fd3 fd4 : FuncData} (D : RawM K CHall "begin" "Hall.begin" tHallBegin f fd) (T : Tx K mg CBoard CNumberedLine CStrokes CNews CPart CPlainLine CHall)
    (G_is_keyboard : Ok P w K mg base 5 "is_keyboard" ["left", "middle", "bar", "labels", "digits"] (spIsKeyboard K) f1 fd1) (G_Board : OkC P w K mg base 3 "Board" CBoard ["self", "left", "middle", "bar", "labels", "digits"] (spBoardInit K CBoard) f2 fd2)
    (G_News : OkC P w K mg base 3 "News" CNews ["self", "way", "bounce", "gap"] (spNewsInit CNews CStrokes) f3 fd3) (G_PlainLine : OkC P w K mg base 1 "PlainLine" CPlainLine ["self", "board"] (spLineInit CPlainLine CPlainLine CNumberedLine 0) f4 fd4) :
    OkM P w K mg base 6 CHall "begin" ["self", "left", "middle", "bar", "labels", "digits"] (spHallBegin K CHall CBoard CNews CStrokes CPlainLine CNumberedLine) f fd := by
  refine ⟨D.fn.ok scHallBegin (fun vs H Q E h => ?_) (fun cdv A outer s H vs Q E hr h => ⟨_,
    (pss_cons (ps_if (pt_not (pt_val (pe_own G_is_keyboard hr (pa_cons (pv 1) (pa_cons (pv 2) (pa_cons (pv 3) (pa_cons (pv 4) (pa_cons (pv 5) pa_nil)))))))) (pss_one (ps_ret (pe_lst (pa_cons (pe_un un_neg pe_n) pa_nil)))) pss_nil)
      (pss_cons (ps_fld (pv 0) (pe_mkOwn G_Board hr (pa_cons (pv 1) (pa_cons (pv 2) (pa_cons (pv 3) (pa_cons (pv 4) (pa_cons (pv 5) pa_nil)))))) rfl)
      (pss_cons (ps_fld (pv 0) (pe_mkOwn G_News hr (pa_cons pe_n (pa_cons pe_n (pa_cons pe_n pa_nil)))) rfl)
      (pss_cons (ps_fld (pv 0) pe_n rfl)
      (pss_cons (ps_fld (pv 0) (pe_mkOwn G_PlainLine hr (pa_cons (pe_fld (pv 0) rfl) pa_nil)) rfl)
      (pss_one (ps_ret (pe_lst (pa_cons pe_n pa_nil))))))))), ?_⟩), D.at_, D.fn.binds fun _ _ _ _ _ _ us hl => match us, hl with | [_, _, _, _, _, _], _ => rfl⟩
  · obtain ⟨a, la, da, left, middle, bar, labels, digits, s, S, rfl, _⟩ := h
    rfl
  · obtain ⟨a, la, da, left, middle, bar, labels, digits, s, S, rfl, hH, hL, hD, k⟩ := h
    rw [step_begin] at k
    have kb := isKb_is left middle bar labels digits
    refine q_when (et_not (et_B (ev_call (ea_cons (ev_var rfl) (ea_cons (ev_var rfl) (ea_cons (ev_var rfl) (ea_cons (ev_var rfl) (ea_cons (ev_var rfl) ea_nil))))) (spV_is fun H' e' => ⟨la, da, left, middle, bar, labels, digits, rfl, ex_l e' hL, ex_l e' hD, rfl⟩)))) (fun b1 H1 e1 => ?_) (fun b1 H1 e1 => ?_)
    · have nk : ¬ (labels.length = digits.length ∧ bar ≤ 1 ∧ (keyboardOf labels digits left middle bar).ok = true) := fun z => by
        rw [kb.mpr z] at b1
        cases b1
      rw [if_neg nk] at k
      refine s_retL el_neg1 fun r H2 hr e2 h2 => ?_
      exact k H2 r S (Fr.of (e1.trans e2)) (fun b hb => Or.inl hb) (hH.ex (e1.trans e2)) h2
    · have yk := kb.mp (by
        cases z : isKb left middle bar labels digits
        · rw [z] at b1
          cases b1
        · rfl)
      rw [if_pos yk] at k
      obtain ⟨hlen, hbar, hok⟩ := yk
      obtain ⟨aS, dx, bV, nV, now, xV, ho⟩ := hH.ins
      have fa : ∀ (H : Hp) (o : HO), Fr [a] H (upd H a o) := fun H o => Fr.upd (by simp)
      -- self.board = Board(..)
      refine q_fldM (a := a) (ea_cons (ev_var rfl) (ea_cons (ev_var rfl) (ea_cons (ev_var rfl) (ea_cons (ev_var rfl) (ea_cons (ev_var rfl) ea_nil))))) (fun _ _ => ev_var rfl) fun x xd H2 e2 hx hxd nx => ?_
      have bx := born_ex (C := CBoard) hx hxd nx
      have e02 := e1.trans e2
      refine ⟨x, xd, la, da, left, middle, bar, labels, digits, rfl, born_at, ex_l (e02.trans bx) hL, ex_l (e02.trans bx) hD, hlen, hok, fun H3 lA dA bs f3 hlA hdA hbs b3 => ⟨rfl, ?_⟩⟩
      have ax : a ≠ x := by
        rintro rfl
        rw [e02 _ _ ho] at hx
        cases hx
      have xH : H x = none := fresh_back e02 hx
      have frx : Evl.Ex H H3 := fun b o q => f3 _ _ (bx _ _ (e02 _ _ q)) (by
        intro z
        rw [List.mem_singleton] at z
        subst z
        rw [xH] at q
        cases q)
      have lH : H lA = none := fresh_back (e02.trans bx) hlA
      have dH : H dA = none := fresh_back (e02.trans bx) hdA
      have bsH : ∀ b ∈ bs, H b = none := fun b hb => fresh_back (e02.trans bx) (hbs b hb)
      have o3 := frx _ _ ho
      refine ⟨.ref a, rfl, a, CHall, dx, _, rfl, o3, T.c_Hall, T.n_Hall_board, (by show 4 < 1000; decide), ?_⟩
      have na : ∀ b o, H3 b = some o → (∀ C dx fs, o ≠ HO.ins C dx fs) → b ∉ [a] := fun b o q no z => by
        rw [List.mem_singleton] at z
        subst z
        rw [o3] at q
        exact no _ _ _ (Option.some.inj q).symm
      have b4 : BoardAt CBoard (upd H3 a (.ins CHall dx (putF "board" (.ref x) (hF bV nV now xV)))) x (keyboardOf labels digits left middle bar) xd lA dA bs := b3.fr (fa _ _) (by simpa using ax.symm) (na _ _ b3.ls fun _ _ _ z => by cases z) (na _ _ b3.ds fun _ _ _ z => by cases z) fun b hb => by
        obtain ⟨xs, q⟩ := rows_lst b3.rows hb
        exact na _ _ q fun _ _ _ z => by cases z
      have o4 : upd H3 a (.ins CHall dx (putF "board" (.ref x) (hF bV nV now xV))) a = some (.ins CHall dx (hF (.ref x) nV now xV)) := upd_same
      have f4 : Fr [a] H (upd H3 a (.ins CHall dx (putF "board" (.ref x) (hF bV nV now xV)))) := (Fr.of frx).trans (fa _ _)
      generalize upd H3 a (.ins CHall dx (putF "board" (.ref x) (hF bV nV now xV))) = K4 at b4 o4 f4
      -- self.news = News(0, 0, 1)
      refine q_fldM (a := a) (ea_cons ev_n (ea_cons ev_n (ea_cons ev_n ea_nil))) (fun _ _ => ev_var rfl) fun y yd H5 e5 hy hyd ny => ?_
      have by_ := born_ex (C := CNews) hy hyd ny
      refine ⟨y, yd, ⟨0, 0, 1⟩, rfl, born_at, fun H6 uA wA sA sdx mA f6 hs hm hw n6 => ⟨rfl, ?_⟩⟩
      have yK : K4 y = none := fresh_back e5 hy
      have fry : Evl.Ex K4 H6 := fun b o q => f6 _ _ (by_ _ _ (e5 _ _ q)) (by
        intro z
        rw [List.mem_singleton] at z
        subst z
        rw [yK] at q
        cases q)
      have hs4 : K4 sA = none := fresh_back (e5.trans by_) hs
      have hm4 : K4 mA = none := fresh_back (e5.trans by_) hm
      have hw4 : K4 wA = none := fresh_back (e5.trans by_) hw
      have ne4 : ∀ z, K4 z = none → z ∉ [a] := fun z q m => by
        rw [List.mem_singleton] at m
        subst m
        rw [o4] at q
        cases q
      have yH : H y = none := f4.free yK (ne4 _ yK)
      have sH : H sA = none := f4.free hs4 (ne4 _ hs4)
      have mH : H mA = none := f4.free hm4 (ne4 _ hm4)
      have wH : H wA = none := f4.free hw4 (ne4 _ hw4)
      have o6 := fry _ _ o4
      refine ⟨.ref a, rfl, a, CHall, dx, _, rfl, o6, T.c_Hall, T.n_Hall_news, (by show 4 < 1000; decide), ?_⟩
      have o7 : upd H6 a (.ins CHall dx (putF "news" (.ref y) (hF (.ref x) nV now xV))) a = some (.ins CHall dx (hF (.ref x) (.ref y) now xV)) := upd_same
      have f7 : Fr [a] H6 (upd H6 a (.ins CHall dx (putF "news" (.ref y) (hF (.ref x) nV now xV)))) := fa _ _
      generalize upd H6 a (.ins CHall dx (putF "news" (.ref y) (hF (.ref x) nV now xV))) = K7 at o7 f7
      refine q_fld ev_n (ev_var rfl) o7 T.c_Hall T.n_Hall_now (by show 4 < 1000; decide) fun H8 e8 => ?_
      have f9 : Fr [a] H6 (upd H8 a (.ins CHall dx (putF "now" (vn 0) (hF (.ref x) (.ref y) now xV)))) := (f7.trans (Fr.of e8)).trans (fa _ _)
      have o9 : upd H8 a (.ins CHall dx (putF "now" (vn 0) (hF (.ref x) (.ref y) now xV))) a = some (.ins CHall dx (hF (.ref x) (.ref y) 0 xV)) := upd_same
      generalize upd H8 a (.ins CHall dx (putF "now" (vn 0) (hF (.ref x) (.ref y) now xV))) = K9 at f9 o9
      -- self.wire = PlainLine(self.board)
      have b6 := b4.ex fry
      have na6 : ∀ b o, H6 b = some o → (∀ C dx fs, o ≠ HO.ins C dx fs) → b ∉ [a] := fun b o q no z => by
        rw [List.mem_singleton] at z
        subst z
        rw [o6] at q
        exact no _ _ _ (Option.some.inj q).symm
      have b9 : BoardAt CBoard K9 x (keyboardOf labels digits left middle bar) xd lA dA bs := b6.fr f9 (by simpa using ax.symm) (na6 _ _ b6.ls fun _ _ _ z => by cases z) (na6 _ _ b6.ds fun _ _ _ z => by cases z) fun b hb => by
        obtain ⟨xs, q⟩ := rows_lst b6.rows hb
        exact na6 _ _ q fun _ _ _ z => by cases z
      have n9 : NewsAt CNews CStrokes K9 y ⟨0, 0, 1⟩ (newsM ⟨0, 0, 1⟩ [] 0) 0 yd uA wA sA sdx mA [] := by
        have nm : newsM (⟨0, 0, 1⟩ : CdKeys.Policy) [] 0 = newsM0 := newsM_nil _ _
        rw [nm]
        have ndk : uA ≠ a := by
          obtain ⟨kvs, g, _⟩ := n6.ups
          exact ne_dk_ins g o6
        refine n6.fr f9 ?_ (by simpa using ndk) (na6 _ _ n6.ws.1 fun _ _ _ z => by cases z) ?_ (na6 _ _ n6.st.ls fun _ _ _ z => by cases z) ?_
        · rw [List.mem_singleton]
          exact ne_cls n6.ob o6 T.d_News_Hall
        · rw [List.mem_singleton]
          exact ne_cls n6.st.ob o6 T.d_Strokes_Hall
        · intro t ht xs q
          rw [List.mem_singleton] at ht
          subst ht
          rw [o6] at q
          cases q
      refine q_fldM (a := a) (ea_cons (ev_fld (ev_var rfl) o9 T.c_Hall T.n_Hall_board (v := .ref x) rfl) ea_nil) (fun _ _ => ev_var rfl) fun z zd H10 e10 hz hzd nz => ?_
      have bz := born_ex (C := CPlainLine) hz hzd nz
      refine ⟨z, zd, x, rfl, born_at, fun H11 L f11 hL ln11 => ⟨rfl, ?_⟩⟩
      have zK : K9 z = none := fresh_back e10 hz
      have frz : Evl.Ex K9 H11 := fun b o q => f11 _ _ (bz _ _ (e10 _ _ q)) (by
        intro c
        rw [List.mem_singleton] at c
        subst c
        rw [zK] at q
        cases q)
      have hL9 : ∀ b ∈ L, K9 b = none := fun b hb => by
        rcases hL b hb with c | c
        · rw [c]
          exact zK
        · exact fresh_back (e10.trans bz) c
      have o11 := frz _ _ o9
      refine ⟨.ref a, rfl, a, CHall, dx, _, rfl, o11, T.c_Hall, T.n_Hall_wire, (by show 4 < 1000; decide), ?_⟩
      have o12 : upd H11 a (.ins CHall dx (putF "wire" (.ref z) (hF (.ref x) (.ref y) 0 xV))) a = some (.ins CHall dx (hF (.ref x) (.ref y) 0 (.ref z))) := upd_same
      have f12 : Fr [a] H11 (upd H11 a (.ins CHall dx (putF "wire" (.ref z) (hF (.ref x) (.ref y) 0 xV)))) := fa _ _
      generalize upd H11 a (.ins CHall dx (putF "wire" (.ref z) (hF (.ref x) (.ref y) 0 xV))) = K12 at o12 f12
      have na11 : ∀ b o, H11 b = some o → (∀ C dx fs, o ≠ HO.ins C dx fs) → b ∉ [a] := fun b o q no z => by
        rw [List.mem_singleton] at z
        subst z
        rw [o11] at q
        exact no _ _ _ (Option.some.inj q).symm
      have b11 := b9.ex frz
      have n11 := n9.ex frz
      have kn9 : ∀ b ∈ L, ∀ o, K9 b ≠ some o := fun b hb o q => by
        rw [hL9 b hb] at q
        cases q
      have dW : DeskW CHall CBoard CNews CStrokes CPlainLine CNumberedLine K12 a ⟨keyboardOf labels digits left middle bar, ⟨0, 0, 1⟩, [], 0, 0, 0, CdKeys.fresh⟩ ((a :: y :: sA :: mA :: wA :: lA :: dA :: bs) ++ L) dx x y xd lA dA bs yd uA wA sA sdx mA [] z L := by
        refine ⟨o12, b11.fr f12 (by simpa using ax.symm) (na11 _ _ b11.ls fun _ _ _ z => by cases z) (na11 _ _ b11.ds fun _ _ _ z => by cases z) (fun b hb => ?_), ?_, desk_begun (kb_ok hok).2.1 hok, ln11.fr f12 (fun b hb c => ?_), rfl, ?_, ?_, ?_, ?_⟩
        · obtain ⟨xs, q⟩ := rows_lst b11.rows hb
          exact na11 _ _ q fun _ _ _ z => by cases z
        · have ndk : uA ≠ a := by
            obtain ⟨kvs, g, _⟩ := n11.ups
            exact ne_dk_ins g o11
          refine n11.fr f12 ?_ (by simpa using ndk) (na11 _ _ n11.ws.1 fun _ _ _ z => by cases z) ?_ (na11 _ _ n11.st.ls fun _ _ _ z => by cases z) ?_
          · rw [List.mem_singleton]
            exact ne_cls n11.ob o11 T.d_News_Hall
          · rw [List.mem_singleton]
            exact ne_cls n11.st.ob o11 T.d_Strokes_Hall
          · intro t ht xs q
            rw [List.mem_singleton] at ht
            subst ht
            rw [o11] at q
            cases q
        · rw [List.mem_singleton] at c
          subst c
          exact kn9 _ hb _ o9
        · rintro rfl
          rw [b4.ls] at hm4
          cases hm4
        · rintro rfl
          rw [b4.ds] at hm4
          cases hm4
        · intro z
          obtain ⟨xs, q⟩ := rows_lst b4.rows z
          rw [hm4] at q
          cases q
        · intro b hb c
          simp only [List.mem_cons] at c
          rcases c with rfl | rfl | rfl | rfl | rfl | rfl | rfl | rfl | c
          · exact kn9 _ hb _ b9.ob
          · exact kn9 _ hb _ o9
          · exact kn9 _ hb _ n9.ob
          · exact kn9 _ hb _ n9.st.ob
          · exact kn9 _ hb _ n9.st.ls
          · exact kn9 _ hb _ n9.ws.1
          · exact kn9 _ hb _ b9.ls
          · exact kn9 _ hb _ b9.ds
          · obtain ⟨xs, q⟩ := rows_lst b9.rows c
            exact kn9 _ hb _ q
      have toH : ∀ b o, H b = some o → b ∉ [a] → K9 b = some o := fun b o q ba => f9 _ _ (fry _ _ (f4 _ _ q ba)) ba
      refine s_retL (el_lst (ea_cons ev_n ea_nil) few) fun r H13 hr e13 h13 => ?_
      refine k H13 r _ ?_ (fun b hb => ?_) (HallAt.ex e13 ⟨_, _, _, _, _, _, _, _, _, _, _, _, _, _, _, _, dW⟩) h13
      · intro b o q nb
        have ba : b ∉ [a] := by
          rw [List.mem_singleton]
          rintro rfl
          exact nb aS
        exact e13 _ _ (f12 _ _ (frz _ _ (toH _ _ q ba)) ba)
      · by_cases hbL : b ∈ L
        · refine Or.inr ?_
          cases q : H b with
          | none => rfl
          | some o =>
            by_cases ba : b ∈ [a]
            · rw [List.mem_singleton] at ba
              subst ba
              exact absurd o9 (kn9 _ hbL _)
            · exact absurd (toH _ _ q ba) (kn9 _ hbL _)
        have hb := (List.mem_append.mp hb).resolve_right hbL
        simp only [List.mem_cons] at hb
        rcases hb with q | q | q | q | q | q | q | q
        · subst q
          exact Or.inl aS
        · subst q
          exact Or.inr yH
        · subst q
          exact Or.inr sH
        · subst q
          exact Or.inr mH
        · subst q
          exact Or.inr wH
        · subst q
          exact Or.inr lH
        · subst q
          exact Or.inr dH
        · exact Or.inr (bsH _ q)

/-! ### write -/
def spHallWrite (K : PySem.W.Frag) (CH CB CN CS CP CM : Addr) : Sp := fun vs H Q _ => ∃ (a oA : Addr) (o : List Nat) (d : Desk) (S : List Addr), vs = [.ref a, .ref oA] ∧ HallAt CH CB CN CS CP CM H a (some d) S ∧ SqL K H oA (vns o) ∧ o.length ≤ 40000 ∧
  HallDoes CH CB CN CS CP CM H a S (some (onDesk d (.write o)).1) (onDesk d (.write o)).2 Q
theorem scHallWrite : FnScope ["self", "outline"] ["self", "outline"] (defScope tHallWrite) := ⟨rfl, rfl, rfl, by decide +kernel, rfl, by decide +kernel, by decide +kernel⟩
theorem ok_Hall_write {f f1 f2 f3 : Addr} {fd fd1 fd2 fd3 : FuncData} (D : RawM K CHall "write" "Hall.write" tHallWrite f fd) (T : Tx K mg CBoard CNumberedLine CStrokes CNews CPart CPlainLine CHall)
    (G_is_outline : Ok P w K mg base 3 "is_outline" ["board", "chords"] (spIsOutline K CBoard) f1 fd1) (G_counted : Ok P w K mg base 1 "counted" ["row"] spCounted f2 fd2) (G_outline_text : Ok P w K mg base 4 "outline_text" ["board", "chords"] (spOutlineText K CBoard) f3 fd3) :
    OkM P w K mg base 5 CHall "write" ["self", "outline"] (spHallWrite K CHall CBoard CNews CStrokes CPlainLine CNumberedLine) f fd := by
  refine ⟨D.fn.ok scHallWrite (fun vs H Q E h => ?_) (fun cdv A outer s H vs Q E hr h => ⟨_,
    (pss_cons (ps_if (pt_not (pt_val (pe_own G_is_outline hr (pa_cons (pe_fld (pv 0) rfl) (pa_cons (pv 1) pa_nil))))) (pss_one (ps_ret (pe_lst (pa_cons (pe_un un_neg pe_n) pa_nil)))) pss_nil)
      (pss_one (ps_ret (pe_op op_cat (pe_lst (pa_cons pe_n pa_nil)) (pe_own G_counted hr (pa_cons (pe_own G_outline_text hr (pa_cons (pe_fld (pv 0) rfl) (pa_cons (pv 1) pa_nil))) pa_nil)))))), ?_⟩), D.at_, D.fn.binds fun _ _ _ _ _ _ us hl => match us, hl with | [_, _], _ => rfl⟩
  · obtain ⟨a, oA, o, d, S, rfl, _⟩ := h
    rfl
  · obtain ⟨a, oA, o, d, S, rfl, hH, hO, hl, k⟩ := h
    obtain ⟨dx, bA, nA, bdx, lA, dA, bs, ndx, uA, wA, sA, sdx, mA, as, xA, L, h⟩ := id hH
    have fb : ∀ {H'}, Evl.Ex H H' → Ev (tFld K (tVar 0) "board") [some (.ref a), some (.ref oA)] H' (.ref bA) := fun e => ev_fld (ev_var rfl) (e _ _ h.ob) T.c_Hall T.n_Hall_board (v := .ref bA) rfl
    refine q_when (et_not (et_B (ev_call (ea_cons (fb (Evl.Ex.refl _)) (ea_cons (ev_var rfl) ea_nil)) (spV_is fun H' e' => ⟨bA, oA, d.keyboard, o, rfl, ⟨_, _, _, _, h.bd.ex e'⟩, ex_l e' hO, hl, rfl⟩)))) (fun b1 H1 e1 => ?_) (fun b1 H1 e1 => ?_)
    · have n : ¬ d.keyboard.outlineOk o = true := fun z => by
        rw [z] at b1
        cases b1
      have st : onDesk d (.write o) = (d, BAD) := by
        show (d, if d.keyboard.outlineOk o = true then _ else BAD) = _
        rw [if_neg n]
      rw [st] at k
      refine s_retL el_neg1 fun r H2 hr e2 h2 => ?_
      exact k H2 r S (Fr.of (e1.trans e2)) (fun b hb => Or.inl hb) (hH.ex (e1.trans e2)) h2
    · have y : d.keyboard.outlineOk o = true := by
        cases z : d.keyboard.outlineOk o
        · rw [z] at b1
          cases b1
        · rfl
      have st : onDesk d (.write o) = (d, tells [.t (Cd.bytesOf (d.keyboard.outline o))]) := by
        show (d, if d.keyboard.outlineOk o = true then _ else BAD) = _
        rw [if_pos y]
      rw [st] at k
      have ol : (outB d.keyboard o).length ≤ 80000 := by
        have h1 := outB_len h.bd.ok o
        have h2 : o.length ≤ 10 := by
          have y2 := y
          unfold CdKeys.Keyboard.outlineOk at y2
          rw [Bool.and_eq_true, Bool.and_eq_true, decide_eq_true_eq, decide_eq_true_eq] at y2
          exact y2.2.1
        omega
      refine s_retL (xs := [vn 0] ++ vns (cntd (outB d.keyboard o))) (el_cat (el_lst (ea_cons ev_n ea_nil) few) (el_callL1 (xs := vns (outB d.keyboard o)) (el_call (ea_cons (fb e1) (ea_cons (ev_var rfl) ea_nil)) (spL_is fun H' e' => ⟨bA, oA, d.keyboard, o, rfl, ⟨_, _, _, _, h.bd.ex (e1.trans e')⟩, ex_l (e1.trans e') hO, y, rfl⟩)) fun p H2 e2 h2 => spL_is fun H' e' => ⟨p, vns (outB d.keyboard o), rfl, e' _ _ h2, by rw [vns_length]; omega, (cnt_vns _).symm⟩) ?_) fun r H2 hr e2 h2 => ?_
      · rw [vns_length]
        show 1 + ((outB d.keyboard o).length + 1) ≤ 100000
        omega
      · refine k H2 r S (Fr.of (e1.trans e2)) (fun b hb => Or.inl hb) (hH.ex (e1.trans e2)) ?_
        rw [ansV_bytes]
        exact h2
end
end Kx

-- KHall4
/-! Hall: feed, read. -/
namespace Kx
open PySem PySem.Spec PyProof.Rows L2 Evl KeysCalls

section
variable {P : Program} {w : World} {K : PySem.W.Frag} {mg : Str → Option Value} {base : Heap} {CBoard CNumberedLine CStrokes CNews CPart CPlainLine CHall : Addr}
/-! ### feed -/
def spHallFeed (K : PySem.W.Frag) (CH CB CN CS CP CM : Addr) : Sp := fun vs H Q _ => ∃ (a eA : Addr) (ns : List Nat) (now : Nat) (d : Desk) (S : List Addr), vs = [.ref a, vn now, .ref eA] ∧ HallAt CH CB CN CS CP CM H a (some d) S ∧ SqL K H eA (vns ns) ∧ ns.length ≤ 80000 ∧ d.news.length ≤ 50000 ∧
  HallDoes CH CB CN CS CP CM H a S (some (onDesk d (.feed ns now)).1) (onDesk d (.feed ns now)).2 Q
theorem scHallFeed : FnScope ["self", "now", "events", "told"] ["self", "now", "events"] (defScope tHallFeed) := ⟨rfl, rfl, rfl, by decide +kernel, rfl, by decide +kernel, by decide +kernel⟩
theorem feed_bad {d : Desk} {ns : List Nat} {now : Nat} (h : feedBad ns d.now now d.keyboard.size = true) : onDesk d (.feed ns now) = (d, BAD) := by
  have y := feedBad_yes h
  show (match eventsIn ns with
    | none => (d, BAD)
    | some l => _) = _
  cases q : eventsIn ns with
  | none => rfl
  | some l => exact if_pos (y l q)
theorem ok_Hall_feed {f f1 f2 f3 : Addr} {fd fd1 fd2 fd3 : FuncData} (D : RawM K CHall "feed" "Hall.feed" tHallFeed f fd) (T : Tx K mg CBoard CNumberedLine CStrokes CNews CPart CPlainLine CHall)
    (G_events_fit : Ok P w K mg base 2 "events_fit" ["events", "earliest", "latest", "size"] (spEventsFit K) f1 fd1) (G_News_come : OkM P w K mg base 5 CNews "come" ["self", "now", "events"] (spCome K CNews CStrokes) f2 fd2) (G_counted : Ok P w K mg base 1 "counted" ["row"] spCounted f3 fd3) :
    OkM P w K mg base 6 CHall "feed" ["self", "now", "events"] (spHallFeed K CHall CBoard CNews CStrokes CPlainLine CNumberedLine) f fd := by
  refine ⟨D.fn.ok scHallFeed (fun vs H Q E h => ?_) (fun cdv A outer s H vs Q E hr h => ⟨_,
    (pss_cons (ps_if (PW.pt (pw_or (pt_cmpR on_ge (pv 1) (pe_gi T.g_TICKS_END_hall) (nomark _)) (pw_or (pt_cmpR on_lt (pv 1) (pe_fld (pv 0) rfl) (nomark _)) (pw_or1 (pt_not (pt_val (pe_own G_events_fit hr (pa_cons (pv 2) (pa_cons (pe_fld (pv 0) rfl) (pa_cons (pv 1) (pa_cons (pe_fld (pe_fld (pv 0) rfl) rfl) pa_nil))))))))))) (pss_one (ps_ret (pe_lst (pa_cons (pe_un un_neg pe_n) pa_nil)))) pss_nil)
      (pss_cons (ps_set (i := 3) scHallFeed.nd rfl (Or.inl rfl) (pe_ownM G_News_come T.c_News hr (pe_fld (pv 0) rfl) (pa_cons (pv 1) (pa_cons (pv 2) pa_nil))))
      (pss_cons (ps_if (pt_cmpR op_isN (pv 3) pe_non (nomark _)) (pss_one (ps_ret (pe_lst (pa_cons (pe_un un_neg pe_n) pa_nil)))) pss_nil)
      (pss_cons (ps_fld (pv 0) (pv 1) rfl)
      (pss_one (ps_ret (pe_op op_cat (pe_lst (pa_cons pe_n pa_nil)) (pe_own G_counted hr (pa_cons (pv 3) pa_nil))))))))), ?_⟩), D.at_, D.fn.binds fun _ _ _ _ _ _ us hl => match us, hl with | [_, _, _], _ => rfl⟩
  · obtain ⟨a, eA, ns, now, d, S, rfl, _⟩ := h
    rfl
  · obtain ⟨a, eA, ns, now, d, S, rfl, hH, hE, hl, hn, k⟩ := h
    obtain ⟨dx, bA, nA, bdx, lA, dA, bs, ndx, uA, wA, sA, sdx, mA, as, xA, L, h⟩ := id hH
    refine q_when (b := feedBad ns d.now now d.keyboard.size) (et_or (etN (g := fun n m => decide (m ≤ n)) (ev_var rfl) ev_c trivial) fun _ => et_or (etN (g := fun n m => decide (n < m)) (ev_var rfl) (ev_fld (ev_var rfl) h.ob T.c_Hall T.n_Hall_now rfl) trivial) fun _ => et_not (et_B (ev_call (ea_cons (ev_var rfl) (ea_cons (ev_fld (ev_var rfl) h.ob T.c_Hall T.n_Hall_now (v := vn d.now) rfl) (ea_cons (ev_var rfl) (ea_cons (ev_fld (ev_fld (ev_var rfl) h.ob T.c_Hall T.n_Hall_board (v := .ref bA) rfl) h.bd.ob T.c_Board T.n_Board_size (v := vn d.keyboard.size) rfl) ea_nil)))) (spV_is fun H' e' => ⟨eA, ns, d.now, now, d.keyboard.size, rfl, ex_l e' hE, hl, rfl⟩)))) (fun b1 H1 e1 => ?_) (fun b1 H1 e1 => ?_)
    · rw [feed_bad b1] at k
      refine s_retL el_neg1 fun r H2 hr e2 h2 => ?_
      exact k H2 r S (Fr.of (e1.trans e2)) (fun b hb => Or.inl hb) (hH.ex (e1.trans e2)) h2
    · obtain ⟨l, q, hlen, hc⟩ := feedBad_no b1
      have ci := come_is d.policy d.keyboard.size d.news l d.now now h.ok.ord hc
      have k1000 : ∀ e ∈ d.news ++ l, e.key ≤ 1000 := fun e he => by
        have hs := h.ok.size
        rcases List.mem_append.mp he with z | z
        · have := h.ok.keys e z
          omega
        · have := comes_keys _ _ _ _ hc e z
          omega
      obtain ⟨wu, wk⟩ := waits_ok d.policy d.news l d.now k1000
      have st : onDesk d (.feed ns now) = if WAIT < (CdKeys.waiting d.policy (d.news ++ l) now).length then (d, FULL) else ({ d with news := d.news ++ l, now := now, told := (CdKeys.strokesOf d.policy (d.news ++ l) now).length }, tells [.l (((CdKeys.strokesOf d.policy (d.news ++ l) now).drop d.told).flatMap fun (x : Cd.Stroke) => [x.chord, x.tick])]) := by
        have step : onDesk d (.feed ns now) = (match eventsIn ns with
          | none => (d, BAD)
          | some l => if EVENTS < l.length ∨ CdKeys.comes d.keyboard.size d.now now l = false then (d, BAD)
            else if WAIT < (CdKeys.waiting d.policy (d.news ++ l) now).length then (d, FULL)
            else ({ d with news := d.news ++ l, now := now, told := (CdKeys.strokesOf d.policy (d.news ++ l) now).length }, tells [.l (((CdKeys.strokesOf d.policy (d.news ++ l) now).drop d.told).flatMap fun (x : Cd.Stroke) => [x.chord, x.tick])])) := rfl
        rw [step, q]
        dsimp only
        rw [if_neg]
        rintro (z | z)
        · have : EVENTS = 4096 := rfl
          omega
        · rw [hc] at z
          cases z
      rw [st] at k
      refine q_callMA (ev_fld (ev_var rfl) (e1 _ _ h.ob) T.c_Hall T.n_Hall_news (v := .ref nA) rfl) (e1 _ _ h.nw.ob) rfl (vs := [vn now, .ref eA]) (fun _ _ => ea_cons (ev_var rfl) (ea_cons (ev_var rfl) ea_nil)) fun H2 e2 => ?_
      have e02 := e1.trans e2
      refine ⟨nA, eA, ns, l, now, d.policy, newsM d.policy d.news d.now, d.news.length, ndx, uA, wA, sA, sdx, mA, as, rfl, h.nw.ex e02, ex_l e02 hE, q, hlen, fun e he => k1000 e (List.mem_append_right _ he), h.ok.few, hn, wu, wk, fun cn => ?_, fun out m' cs H3 uA' wA' m2 as' f3 hm2 hw2 hmA hout n3 => ?_⟩
      · -- too many wait
        rw [ci] at cn
        have wt : WAIT < (CdKeys.waiting d.policy (d.news ++ l) now).length := by
          by_cases z : WAIT < (CdKeys.waiting d.policy (d.news ++ l) now).length
          · exact z
          · rw [if_neg z] at cn
            cases cn
        rw [if_pos wt] at k
        intro H3 e3
        refine q_when (b := true) (et_test (ev_op (ev_var rfl) ev_c rv_isN)) (fun _ H4 e4 => ?_) (fun b _ _ => by cases b)
        refine s_retL el_neg1 fun r H5 hr e5 h5 => ?_
        have eA := ((e02.trans e3).trans e4).trans e5
        exact k H5 r S (Fr.of eA) (fun b hb => Or.inl hb) (hH.ex eA) h5
      · rw [ci] at cs
        have wt : ¬ WAIT < (CdKeys.waiting d.policy (d.news ++ l) now).length := by
          intro z
          rw [if_pos z] at cs
          cases cs
        rw [if_neg wt] at cs k
        have cs' := Option.some.inj cs
        have eo : out = (CdKeys.strokesOf d.policy (d.news ++ l) now).drop (CdKeys.strokesOf d.policy d.news d.now).length := (congrArg Prod.fst cs').symm
        have em : m' = newsM d.policy (d.news ++ l) now := (congrArg Prod.snd cs').symm
        rw [← h.ok.told] at eo
        rw [← eo] at k
        subst em
        have aN : a ∉ [nA, sA, mA] := by
          simp only [List.mem_cons, List.not_mem_nil, or_false, not_or]
          exact ⟨ne_cls h.ob h.nw.ob (Ne.symm T.d_News_Hall), ne_cls h.ob h.nw.st.ob (Ne.symm T.d_Strokes_Hall), (ne_lst_ins h.nw.st.ls h.ob).symm⟩
        have b2 := h.bd.ex e02
        have n2 := h.nw.ex e02
        have o3 : H3 a = some (.ins CHall dx (hF (.ref bA) (.ref nA) d.now (.ref xA))) := f3 _ _ (e02 _ _ h.ob) aN
        have lstN : ∀ b xs, H2 b = some (.lst xs) → b ≠ mA → b ∉ [nA, sA, mA] := fun b xs hb nm => by
          simp only [List.mem_cons, List.not_mem_nil, or_false, not_or]
          exact ⟨ne_lst_ins hb n2.ob, ne_lst_ins hb n2.st.ob, nm⟩
        have b3 : BoardAt CBoard H3 bA d.keyboard bdx lA dA bs := b2.fr f3 (by
            simp only [List.mem_cons, List.not_mem_nil, or_false, not_or]
            exact ⟨ne_cls b2.ob n2.ob T.d_Board_News, ne_cls b2.ob n2.st.ob (Ne.symm (Ne.symm T.d_Board_Strokes)), (ne_lst_ins n2.st.ls b2.ob).symm⟩) (lstN _ _ b2.ls h.lm) (lstN _ _ b2.ds h.dm) fun b hb => by
          obtain ⟨xs, g⟩ := rows_lst b2.rows hb
          exact lstN _ _ g fun z => h.bm (z ▸ hb)
        refine q_when (b := false) (et_test (ev_op (ev_var rfl) ev_c rv_isN)) (fun b _ _ => by cases b) (fun _ H4 e4 => ?_)
        refine q_fld (ev_var rfl) (ev_var rfl) (e4 _ _ o3) T.c_Hall T.n_Hall_now (by show 4 < 1000; decide) fun H5 e5 => ?_
        have fa : ∀ (H : Hp) (o : HO), Fr [a] H (upd H a o) := fun H o => Fr.upd (by simp)
        have o6 : upd H5 a (.ins CHall dx (putF "now" (vn now) (hF (.ref bA) (.ref nA) d.now (.ref xA)))) a = some (.ins CHall dx (hF (.ref bA) (.ref nA) now (.ref xA))) := upd_same
        have f6 : Fr [a] H3 (upd H5 a (.ins CHall dx (putF "now" (vn now) (hF (.ref bA) (.ref nA) d.now (.ref xA))))) := (Fr.of (e4.trans e5)).trans (fa _ _)
        generalize upd H5 a (.ins CHall dx (putF "now" (vn now) (hF (.ref bA) (.ref nA) d.now (.ref xA)))) = K6 at o6 f6
        have na : ∀ b o, H3 b = some o → (∀ C dx fs, o ≠ HO.ins C dx fs) → b ∉ [a] := fun b o q no z => by
          rw [List.mem_singleton] at z
          subst z
          rw [o3] at q
          exact no _ _ _ (Option.some.inj q).symm
        have m2H : H m2 = none := fresh_back e02 hm2
        have w2H : H wA' = none := fresh_back e02 hw2
        have dW : DeskW CHall CBoard CNews CStrokes CPlainLine CNumberedLine K6 a { d with news := d.news ++ l, now := now, told := (CdKeys.strokesOf d.policy (d.news ++ l) now).length } ((a :: nA :: sA :: m2 :: wA' :: lA :: dA :: bs) ++ L) dx bA nA bdx lA dA bs ndx uA' wA' sA sdx m2 as' xA L := by
          refine ⟨o6, b3.fr f6 ?_ (na _ _ b3.ls fun _ _ _ z => by cases z) (na _ _ b3.ds fun _ _ _ z => by cases z) (fun b hb => ?_), ?_, h.ok.fed hc wt, ((h.ln.ex e02).fr f3 (fun b hb z => h.dj b hb (by
            simp only [List.mem_cons, List.not_mem_nil, or_false] at z
            rcases z with z | z | z <;> simp [z]))).fr f6 (fun b hb z => h.dj b hb (by
            rw [List.mem_singleton] at z
            simp [z])), rfl, ?_, ?_, ?_, ?_⟩
          · rw [List.mem_singleton]
            exact ne_cls b3.ob o3 T.d_Board_Hall
          · obtain ⟨xs, g⟩ := rows_lst b3.rows hb
            exact na _ _ g fun _ _ _ z => by cases z
          · have nl : (d.news ++ l).length = d.news.length + l.length := List.length_append
            show NewsAt CNews CStrokes K6 nA d.policy (newsM d.policy (d.news ++ l) now) (d.news ++ l).length ndx uA' wA' sA sdx m2 as'
            rw [nl]
            have ndk : uA' ≠ a := by
              obtain ⟨kvs, g, _⟩ := n3.ups
              exact ne_dk_ins g o3
            refine n3.fr f6 ?_ (by simpa using ndk) (na _ _ n3.ws.1 fun _ _ _ z => by cases z) ?_ (na _ _ n3.st.ls fun _ _ _ z => by cases z) ?_
            · rw [List.mem_singleton]
              exact ne_cls n3.ob o3 T.d_News_Hall
            · rw [List.mem_singleton]
              exact ne_cls n3.st.ob o3 T.d_Strokes_Hall
            · intro t ht xs g
              rw [List.mem_singleton] at ht
              subst ht
              rw [o3] at g
              cases g
          · rintro rfl
            rw [h.bd.ls] at m2H
            cases m2H
          · rintro rfl
            rw [h.bd.ds] at m2H
            cases m2H
          · intro z
            obtain ⟨xs, g⟩ := rows_lst h.bd.rows z
            rw [m2H] at g
            cases g
          · intro b hb z
            have kb := h.ln.known b hb
            have old := h.dj b hb
            simp only [List.mem_cons, not_or] at old z
            rcases z with z | z | z | z | z | z | z | z | z
            · exact old.1 z
            · exact old.2.1 z
            · exact old.2.2.1 z
            · exact old.2.2.2.1 z
            · exact kb (by rw [z]; exact m2H)
            · exact kb (by rw [z]; exact w2H)
            · exact old.2.2.2.2.2.2.1 z
            · exact old.2.2.2.2.2.2.2.1 z
            · exact old.2.2.2.2.2.2.2.2 z
        have hmA6 : K6 mA = some (.lst (vns (sNums out))) := f6 _ _ hmA (na _ _ hmA fun _ _ _ z => by cases z)
        have sl := sNums_length out
        refine s_retL (xs := [vn 0] ++ vns (cntd (sNums out))) (el_cat (el_lst (ea_cons ev_n ea_nil) few) (el_call (ea_cons (ev_var rfl) ea_nil) (spL_is fun H' e' => ⟨mA, vns (sNums out), rfl, e' _ _ hmA6, by rw [vns_length]; omega, (cnt_vns _).symm⟩)) ?_) fun r H7 hr e7 h7 => ?_
        · rw [vns_length]
          show 1 + ((sNums out).length + 1) ≤ 100000
          omega
        · refine k H7 r _ ?_ (fun b hb => ?_) (HallAt.ex e7 ⟨_, _, _, _, _, _, _, _, _, _, _, _, _, _, _, _, dW⟩) ?_
          · intro b o g nb
            have nb' : b ∉ (a :: nA :: sA :: mA :: wA :: lA :: dA :: bs) := fun z => nb (by
              rw [h.own]
              exact List.mem_append_left _ z)
            simp only [List.mem_cons, not_or] at nb'
            exact e7 _ _ (f6 _ _ (f3 _ _ (e02 _ _ g) (by simp [nb'.2.1, nb'.2.2.1, nb'.2.2.2.1])) (by simp [nb'.1]))
          · rw [h.own]
            by_cases hbL : b ∈ L
            · exact Or.inl (List.mem_append_right _ hbL)
            have hb := (List.mem_append.mp hb).resolve_right hbL
            simp only [List.mem_cons] at hb
            rcases hb with z | z | z | z | z | z | z | z
            · subst z
              exact Or.inl (by simp)
            · subst z
              exact Or.inl (by simp)
            · subst z
              exact Or.inl (by simp)
            · subst z
              exact Or.inr m2H
            · subst z
              exact Or.inr w2H
            · subst z
              exact Or.inl (by simp)
            · subst z
              exact Or.inl (by simp)
            · exact Or.inl (by simp [z])
          · rw [ansV_list]
            exact h7

/-! ### read -/
theorem read_ok {d : Desk} {b : Cd.Bytes} {o : List Nat} (nb : ¬ 4096 < b.length) (h : d.keyboard.read b = .ok o) : onDesk d (.read b) = (d, tells [.l o]) := by
  simp only [onDesk, if_neg nb, h]
theorem read_err {d : Desk} {b : Cd.Bytes} {q : Nat} (nb : ¬ 4096 < b.length) (h : d.keyboard.read b = .error q) : onDesk d (.read b) = (d, ⟨-2, [.n q]⟩) := by
  simp only [onDesk, if_neg nb, h]
theorem next_done {k : CdKeys.Keyboard} {m n : CdKeys.Mid} {c : Nat} (h : m.done.length + 1 ≤ 10) (e : CdKeys.nextMid k m c = some n) : n.done.length + 1 ≤ 10 := by
  unfold CdKeys.nextMid at e
  split at e
  · split at e
    · cases e
      exact h
    · cases e
  · split at e
    · split at e
      · rename_i c2
        cases e
        have : m.done.length + 1 < 10 := c2.2
        show (m.done ++ [m.chord]).length + 1 ≤ 10
        rw [List.length_append]
        show m.done.length + 1 + 1 ≤ 10
        omega
      · cases e
    · rw [Option.map_eq_some_iff] at e
      obtain ⟨x, _, rfl⟩ := e
      exact h
theorem read_len {k : CdKeys.Keyboard} : ∀ (f p : Nat) (m : CdKeys.Mid) (b : Cd.Bytes), m.done.length + 1 ≤ 10 → ∀ o, CdKeys.readFrom k f p m b = .ok o → o.length ≤ 10
  | 0, p, m, b, _, o, e => by cases e
  | f + 1, p, m, [], h, o, e => by
    have e' : (if CdKeys.over? k m = true then Except.ok (m.done ++ [m.chord]) else .error p) = .ok o := e
    split at e'
    · cases e'
      rw [List.length_append]
      exact h
    · cases e'
  | f + 1, p, m, x :: r, h, o, e => by
    unfold CdKeys.readFrom at e
    dsimp only at e
    split at e
    · rename_i n r' q
      rw [Option.bind_eq_some_iff] at q
      obtain ⟨y, _, q⟩ := q
      rw [Option.map_eq_some_iff] at q
      obtain ⟨n', hn, q⟩ := q
      cases q
      exact read_len f _ _ _ (next_done h hn) o e
    · cases e
def spHallRead (K : PySem.W.Frag) (CH CB CN CS CP CM : Addr) : Sp := fun vs H Q _ => ∃ (a tA : Addr) (b : Cd.Bytes) (d : Desk) (S : List Addr), vs = [.ref a, .ref tA] ∧ HallAt CH CB CN CS CP CM H a (some d) S ∧ SqL K H tA (vns (b.map UInt8.toNat)) ∧ b.length ≤ 80000 ∧
  HallDoes CH CB CN CS CP CM H a S (some (onDesk d (.read b)).1) (onDesk d (.read b)).2 Q
theorem scHallRead : FnScope ["self", "text", "chords", "fault"] ["self", "text"] (defScope tHallRead) := ⟨rfl, rfl, rfl, by decide +kernel, rfl, by decide +kernel, by decide +kernel⟩
theorem ok_Hall_read {f f1 f2 : Addr} {fd fd1 fd2 : FuncData} (D : RawM K CHall "read" "Hall.read" tHallRead f fd) (T : Tx K mg CBoard CNumberedLine CStrokes CNews CPart CPlainLine CHall)
    (G_read_outline : Ok P w K mg base 4 "read_outline" ["board", "text"] (spReadOutline K CBoard) f1 fd1) (G_counted : Ok P w K mg base 1 "counted" ["row"] spCounted f2 fd2) :
    OkM P w K mg base 5 CHall "read" ["self", "text"] (spHallRead K CHall CBoard CNews CStrokes CPlainLine CNumberedLine) f fd := by
  refine ⟨D.fn.ok scHallRead (fun vs H Q E h => ?_) (fun cdv A outer s H vs Q E hr h => ⟨_,
    (pss_cons (ps_if (pt_cmpR on_gt (pe_callB call_len_seq (by rfl) T.b_len PySem.boot_len (pa_cons (pv 1) pa_nil)) (pe_gi T.g_MOST_TEXT) (nomark _)) (pss_one (ps_ret (pe_lst (pa_cons (pe_un un_neg pe_n) pa_nil)))) pss_nil)
      (pss_cons (ps_asg (pe_own G_read_outline hr (pa_cons (pe_fld (pv 0) rfl) (pa_cons (pv 1) pa_nil))) (pg_tup rfl (pgs_cons (pg_name (i := 2) scHallRead.nd rfl (Or.inl rfl)) (pgs_cons (pg_name (i := 3) scHallRead.nd rfl (Or.inl rfl)) pgs_nil))))
      (pss_cons (ps_if (pt_cmpR op_isN (pv 2) pe_non (nomark _)) (pss_one (ps_ret (pe_lst (pa_cons (pe_un un_neg pe_n) (pa_cons (pv 3) pa_nil))))) pss_nil)
      (pss_one (ps_ret (pe_op op_cat (pe_lst (pa_cons pe_n pa_nil)) (pe_own G_counted hr (pa_cons (pv 2) pa_nil)))))))), ?_⟩), D.at_, D.fn.binds fun _ _ _ _ _ _ us hl => match us, hl with | [_, _], _ => rfl⟩
  · obtain ⟨a, tA, b, d, S, rfl, _⟩ := h
    rfl
  · obtain ⟨a, tA, b, d, S, rfl, hH, hT, hl, k⟩ := h
    obtain ⟨dx, bA, nA, bdx, lA, dA, bs, ndx, uA, wA, sA, sdx, mA, as, xA, L, h⟩ := id hH
    have bl : (b.map UInt8.toNat).length = b.length := List.length_map _
    refine q_when (etN (g := fun n m => decide (m < n)) (n := b.length) (m := 4096) (ev_is (ev_lenN' (ev_var rfl) hT) (by rw [bl])) ev_c trivial) (fun b1 H1 e1 => ?_) (fun b1 H1 e1 => ?_)
    · have st : onDesk d (.read b) = (d, BAD) := by
        show (d, if 4096 < b.length then BAD else _) = _
        rw [if_pos (of_decide_eq_true b1)]
      rw [st] at k
      refine s_retL el_neg1 fun r H2 hr e2 h2 => ?_
      exact k H2 r S (Fr.of (e1.trans e2)) (fun b hb => Or.inl hb) (hH.ex (e1.trans e2)) h2
    · have nb : ¬ 4096 < b.length := of_decide_eq_false b1
      have ko := kb_ok h.bd.ok
      have rm := readM_is h.bd.ok ko.2.2.1 (b.length + 1) part0 ⟨[], [], false⟩ b 0 (rel0 _ _) (Nat.le_refl _)
      have rd : d.keyboard.read b = CdKeys.readFrom d.keyboard (b.length + 1) 0 ⟨[], [], false⟩ b := rfl
      rw [← rd] at rm
      refine q_callA (ea_cons (ev_fld (ev_var rfl) (e1 _ _ h.ob) T.c_Hall T.n_Hall_board (v := .ref bA) rfl) (ea_cons (ev_var rfl) ea_nil)) fun H2 e2 => ?_
      have e02 := e1.trans e2
      refine ⟨bA, tA, d.keyboard, b.map UInt8.toNat, rfl, ⟨_, _, _, _, h.bd.ex e02⟩, ex_l e02 hT, by omega, fun o q hq H3 t cA e3 ht hc hf => ?_, fun q hq H3 t e3 ht => ?_⟩
      · rw [bl] at hq
        refine ⟨t, _, rfl, st_of ht, rfl, _, _, rfl, _, _, rfl, rfl, ?_⟩
        have ro : d.keyboard.read b = .ok o := by
          cases z : d.keyboard.read b with
          | ok o' =>
            rw [z] at rm
            have := rm.symm.trans hq
            exact congrArg Except.ok (Option.some.inj (congrArg Prod.fst this))
          | error p =>
            rw [z] at rm
            have := rm.symm.trans hq
            cases this
        rw [read_ok nb ro] at k
        refine q_when (b := false) (et_test (ev_op (ev_var rfl) ev_c rv_isN)) (fun b _ _ => by cases b) (fun _ H4 e4 => ?_)
        have ol : o.length ≤ 10 := read_len _ _ _ _ (by show 0 + 1 ≤ 10; decide) _ ro
        refine s_retL (xs := [vn 0] ++ vns (cntd o)) (el_cat (el_lst (ea_cons ev_n ea_nil) few) (el_call (ea_cons (ev_var rfl) ea_nil) (spL_is fun H' e' => ⟨cA, vns o, rfl, e' _ _ (e4 _ _ hc), by rw [vns_length]; omega, (cnt_vns _).symm⟩)) ?_) fun r H7 hr e7 h7 => ?_
        · rw [vns_length]
          show 1 + (o.length + 1) ≤ 100000
          omega
        · have eA := ((e02.trans e3).trans e4).trans e7
          refine k H7 r S (Fr.of eA) (fun b hb => Or.inl hb) (hH.ex eA) ?_
          show H7 r = some (.lst (ansV (tells [.l o])))
          rw [ansV_list]
          exact h7
      · rw [bl] at hq
        refine ⟨t, _, rfl, st_of ht, rfl, _, _, rfl, _, _, rfl, rfl, ?_⟩
        have ro : d.keyboard.read b = .error q := by
          cases z : d.keyboard.read b with
          | ok o' =>
            rw [z] at rm
            have := rm.symm.trans hq
            cases this
          | error p =>
            rw [z] at rm
            have := rm.symm.trans hq
            exact congrArg Except.error (congrArg Prod.snd this)
        rw [read_err nb ro] at k
        refine q_when (b := true) (et_test (ev_op (ev_var rfl) ev_c rv_isN)) (fun _ H4 e4 => ?_) (fun b _ _ => by cases b)
        refine s_retL (el_lst (ea_cons (ev_un ev_n ru_neg) (ea_cons (ev_var rfl) ea_nil)) few) fun r H7 hr e7 h7 => ?_
        have eA := ((e02.trans e3).trans e4).trans e7
        exact k H7 r S (Fr.of eA) (fun b hb => Or.inl hb) (hH.ex eA) h7
end
end Kx

-- XFlat
/-! The row of numbers that holds calls: from a place on, and as the document's calls. -/
namespace Kx
open KeysCalls

def zns (l : List Nat) : List Int := l.map fun (n : Nat) => (n : Int)
theorem zns_length (l : List Nat) : (zns l).length = l.length := List.length_map _
theorem zns_take (l : List Nat) (i : Nat) : (zns l).take i = zns (l.take i) := List.map_take.symm
theorem zns_drop (l : List Nat) (i : Nat) : (zns l).drop i = zns (l.drop i) := List.map_drop.symm
theorem nats_zns (l : List Nat) : KeysNeutral.nats (zns l) = l := by
  unfold KeysNeutral.nats zns
  rw [List.map_map]
  exact (List.map_congr_left (fun x _ => Int.toNat_natCast x)).trans (List.map_id l)
theorem zns_nats {l : List Int} (h : ∀ x ∈ l, 0 ≤ x) : zns (l.map Int.toNat) = l := by
  unfold zns
  rw [List.map_map]
  refine (List.map_congr_left (fun x hx => ?_)).trans (List.map_id l)
  exact Int.toNat_of_nonneg (h x hx)
theorem drop_at {l : List Nat} {p m : Nat} (h : l[p]? = some m) : l.drop p = m :: l.drop (p + 1) := by
  obtain ⟨lt, e⟩ := List.getElem?_eq_some_iff.mp h
  rw [List.drop_eq_getElem_cons lt, e]
theorem drop_none {l : List Nat} {p : Nat} (h : l[p]? = none) : l.drop p = [] := List.drop_eq_nil_of_le (List.getElem?_eq_none_iff.mp h)
theorem rows_is (ns : List Nat) : ∀ (k p : Nat), PyFlat.rows k (zns (ns.drop p)) = (rowsFrom ns k p).map fun z => (z.1.map zns, zns (ns.drop z.2))
  | 0, p => rfl
  | k + 1, p => by
    unfold PyFlat.rows rowsFrom
    cases h : ns[p]? with
    | none =>
      rw [drop_none h]
      rfl
    | some m =>
      rw [drop_at h]
      dsimp only
      have lt := (List.getElem?_eq_some_iff.mp h).1
      show (match (if 0 ≤ (m : Int) ∧ (m : Int).toNat ≤ (zns (ns.drop (p + 1))).length then some ((zns (ns.drop (p + 1))).take (m : Int).toNat, (zns (ns.drop (p + 1))).drop (m : Int).toNat) else none : Option (List Int × List Int)) with
        | none => none
        | some (x, s) => match PyFlat.rows k s with
          | none => none
          | some (xs, t) => some (x :: xs, t)) = _
      rw [Int.toNat_natCast, zns_length, List.length_drop]
      by_cases c : p + 1 + m ≤ ns.length
      · rw [if_pos c, if_pos ⟨Int.natCast_nonneg m, by omega⟩]
        dsimp only
        rw [zns_drop, List.drop_drop, rows_is ns k (p + 1 + m), zns_take]
        cases rowsFrom ns k (p + 1 + m) with
        | none => rfl
        | some z => rfl
      · rw [if_neg c, if_neg (fun z => c (by have := z.2; omega))]
        rfl
theorem rowsFrom_le {ns : List Nat} : ∀ {k p : Nat} {rows : List (List Nat)} {q : Nat}, rowsFrom ns k p = some (rows, q) → p ≤ q ∧ rows.length = k ∧ (p ≤ ns.length → q ≤ ns.length) ∧ (∀ r ∈ rows, r.length ≤ ns.length ∧ ∀ x ∈ r, x ∈ ns) ∧ (rows.map List.length).sum + p ≤ q
  | 0, p, rows, q, h => by
    have := Option.some.inj h
    cases this
    exact ⟨Nat.le_refl _, rfl, fun h => h, fun r hr => (by cases hr), by
      show 0 + p ≤ p
      omega⟩
  | k + 1, p, rows, q, h => by
    unfold rowsFrom at h
    cases hm : ns[p]? with
    | none =>
      rw [hm] at h
      cases h
    | some m =>
      rw [hm] at h
      dsimp only at h
      by_cases c : p + 1 + m ≤ ns.length
      · rw [if_pos c] at h
        cases hz : rowsFrom ns k (p + 1 + m) with
        | none =>
          rw [hz] at h
          cases h
        | some z =>
          rw [hz] at h
          have e := Option.some.inj h
          have e1 : rows = (ns.drop (p + 1)).take m :: z.1 := (congrArg Prod.fst e).symm
          have e2 : q = z.2 := (congrArg Prod.snd e).symm
          obtain ⟨i1, i2, i3, i4, i5⟩ := rowsFrom_le (rows := z.1) (q := z.2) hz
          subst e1
          subst e2
          refine ⟨by omega, by rw [List.length_cons, i2], fun _ => i3 c, fun r hr => ?_, ?_⟩
          · rcases List.mem_cons.mp hr with q | q
            · subst q
              refine ⟨by rw [List.length_take, List.length_drop]; omega, fun x hx => List.mem_of_mem_drop (List.mem_of_mem_take hx)⟩
            · exact i4 r q
          · rw [List.map_cons, List.sum_cons, List.length_take, List.length_drop]
            omega
      · rw [if_neg c] at h
        cases h
/-- one call more -/
theorem calls_step {ns : List Nat} {f p : Nat} {cs : List (List (List Int))} (h : PyFlat.calls PyWrchka.shape f (zns (ns.drop p)) = some cs) (hp : p < ns.length) :
    ∃ (f' c n k : Nat) (rows : List (List Nat)) (q : Nat) (cs' : List (List (List Int))), ns[p]? = some c ∧ PyWrchka.shape c = some (n, k) ∧ p + 1 + n ≤ ns.length ∧ rowsFrom ns k (p + 1 + n) = some (rows, q) ∧
      cs = (((c : Int) :: zns ((ns.drop (p + 1)).take n)) :: rows.map zns) :: cs' ∧ PyFlat.calls PyWrchka.shape f' (zns (ns.drop q)) = some cs' := by
  have h0 : ns[p]? = some (ns[p]) := List.getElem?_eq_getElem hp
  rw [drop_at h0] at h
  generalize hc : ns[p] = c at h h0
  cases f with
  | zero => cases h
  | succ f =>
    have h' : (match PyFlat.call PyWrchka.shape ((c : Int) :: zns (ns.drop (p + 1))) with
      | none => none
      | some (x, t) => match PyFlat.calls PyWrchka.shape f t with
        | none => none
        | some xs => some (x :: xs)) = some cs := h
    unfold PyFlat.call at h'
    dsimp only at h'
    cases hs : PyWrchka.shape (c : Int) with
    | none =>
      rw [hs] at h'
      cases h'
    | some nk =>
      obtain ⟨n, k⟩ := nk
      rw [hs] at h'
      dsimp only at h'
      rw [zns_length, List.length_drop] at h'
      by_cases l : ns.length - (p + 1) < n
      · rw [if_pos l] at h'
        cases h'
      · rw [if_neg l, zns_drop, List.drop_drop, rows_is] at h'
        cases hr : rowsFrom ns k (p + 1 + n) with
        | none =>
          rw [hr] at h'
          cases h'
        | some z =>
          rw [hr] at h'
          dsimp only [Option.map_some] at h'
          cases hx : PyFlat.calls PyWrchka.shape f (zns (ns.drop z.2)) with
          | none =>
            rw [hx] at h'
            cases h'
          | some xs =>
            rw [hx] at h'
            have e := Option.some.inj h'
            refine ⟨f, c, n, k, z.1, z.2, xs, h0, hs, by omega, hr, ?_, hx⟩
            rw [← e, zns_take]
theorem calls_end {ns : List Nat} {f p : Nat} {cs : List (List (List Int))} (h : PyFlat.calls PyWrchka.shape f (zns (ns.drop p)) = some cs) (hp : ns.length ≤ p) : cs = [] := by
  rw [List.drop_eq_nil_of_le hp] at h
  cases f with
  | zero => exact (Option.some.inj h).symm
  | succ f => exact (Option.some.inj h).symm
theorem whole_id (c : List (List Int)) : PyWrchka.whole c = c := by
  unfold PyWrchka.whole
  split <;> rfl
theorem calls_whole (l : List Int) : PyWrchka.calls l = PyFlat.calls PyWrchka.shape l.length l := by
  unfold PyWrchka.calls
  cases PyFlat.calls PyWrchka.shape l.length l with
  | none => rfl
  | some cs =>
    have e : PyWrchka.whole = id := funext whole_id
    rw [e]
    show some (cs.map id) = some cs
    rw [List.map_id]
/-- a call's step by the document's call -/
theorem step_of {c : KeysNeutral.Call} {y : KeysCalls.Call} (h : KeysNeutral.callOf c = some y) (s : KeysNeutral.S) : KeysNeutral.step s c = ((KeysCalls.step s y).1, (KeysCalls.step s y).2.code :: (KeysCalls.step s y).2.told.flatMap KeysNeutral.toldInts) := by
  unfold KeysNeutral.step
  rw [h]
/-- the places that there are -/
theorem shape_of {c n k : Nat} (h : PyWrchka.shape (c : Int) = some (n, k)) : (c = 0 ∧ n = 3 ∧ k = 2) ∨ (c = 1 ∧ n = 3 ∧ k = 0) ∨ (c = 2 ∧ n = 1 ∧ k = 1) ∨ (c = 3 ∧ n = 0 ∧ k = 0) ∨ (c = 4 ∧ n = 0 ∧ k = 1) ∨ (c = 5 ∧ n = 0 ∧ k = 1) ∨ (c = 6 ∧ n = 0 ∧ k = 2) ∨ (c = 7 ∧ n = 1 ∧ k = 0) ∨ (c = 8 ∧ n = 3 ∧ k = 0) ∨ (c = 9 ∧ n = 1 ∧ k = 0) ∨ (c = 10 ∧ n = 0 ∧ k = 1) := by
  unfold PyWrchka.shape at h
  have fin : ∀ {a b : Nat}, some (a, b) = some (n, k) → n = a ∧ k = b := fun e => by
    cases e
    exact ⟨rfl, rfl⟩
  by_cases h0 : (c : Int) = 0
  · rw [if_pos h0] at h
    exact Or.inl ⟨by omega, fin h⟩
  rw [if_neg h0] at h
  by_cases h1 : (c : Int) = 1
  · rw [if_pos h1] at h
    exact Or.inr (Or.inl ⟨by omega, fin h⟩)
  rw [if_neg h1] at h
  by_cases h2 : (c : Int) = 2
  · rw [if_pos h2] at h
    exact Or.inr (Or.inr (Or.inl ⟨by omega, fin h⟩))
  rw [if_neg h2] at h
  by_cases h3 : (c : Int) = 3
  · rw [if_pos h3] at h
    exact Or.inr (Or.inr (Or.inr (Or.inl ⟨by omega, fin h⟩)))
  rw [if_neg h3] at h
  by_cases h4 : (c : Int) = 4
  · rw [if_pos h4] at h
    exact Or.inr (Or.inr (Or.inr (Or.inr (Or.inl ⟨by omega, fin h⟩))))
  rw [if_neg h4] at h
  by_cases h5 : (c : Int) = 5
  · rw [if_pos h5] at h
    exact Or.inr (Or.inr (Or.inr (Or.inr (Or.inr (Or.inl ⟨by omega, fin h⟩)))))
  rw [if_neg h5] at h
  by_cases h6 : (c : Int) = 6
  · rw [if_pos h6] at h
    exact Or.inr (Or.inr (Or.inr (Or.inr (Or.inr (Or.inr (Or.inl ⟨by omega, fin h⟩))))))
  rw [if_neg h6] at h
  by_cases h7 : (c : Int) = 7
  · rw [if_pos h7] at h
    exact Or.inr (Or.inr (Or.inr (Or.inr (Or.inr (Or.inr (Or.inr (Or.inl ⟨by omega, fin h⟩)))))))
  rw [if_neg h7] at h
  by_cases h8 : (c : Int) = 8
  · rw [if_pos h8] at h
    exact Or.inr (Or.inr (Or.inr (Or.inr (Or.inr (Or.inr (Or.inr (Or.inr (Or.inl ⟨by omega, fin h⟩))))))))
  rw [if_neg h8] at h
  by_cases h9 : (c : Int) = 9
  · rw [if_pos h9] at h
    exact Or.inr (Or.inr (Or.inr (Or.inr (Or.inr (Or.inr (Or.inr (Or.inr (Or.inr (Or.inl ⟨by omega, fin h⟩)))))))))
  rw [if_neg h9] at h
  by_cases h10 : (c : Int) = 10
  · rw [if_pos h10] at h
    exact Or.inr (Or.inr (Or.inr (Or.inr (Or.inr (Or.inr (Or.inr (Or.inr (Or.inr (Or.inr ⟨by omega, fin h⟩)))))))))
  rw [if_neg h10] at h
  cases h
end Kx

-- XBound
/-! How long the document's answers are. -/
namespace Kx
open CdKeys KeysCalls

def newsLen : State → Nat
  | none => 0
  | some d => d.news.length
/-- how many numbers of a call's rows count -/
def callSz : Call → Nat
  | .feed e _ => e.length
  | .merge a b => a.length + b.length
  | .take b => b.length
  | _ => 0
def toldLen (x : Answer) : Nat := (x.told.flatMap KeysNeutral.toldInts).length
theorem told_l (l : List Nat) : toldLen (tells [.l l]) = l.length + 1 := by
  show (((l.length : Int) :: l.map fun (n : Nat) => (n : Int)) ++ []).length = _
  rw [List.append_nil, List.length_cons, List.length_map]
theorem told_t (b : Cd.Bytes) : toldLen (tells [.t b]) = b.length + 1 := by
  show (((b.length : Int) :: b.map fun (c : UInt8) => (c.toNat : Int)) ++ []).length = _
  rw [List.append_nil, List.length_cons, List.length_map]
theorem taken_len (p : Policy) (s : Run) (e : Event) : (taken p s e).1.length ≤ 2 := by
  have o := over_len p s e.tick
  unfold taken
  dsimp only
  split
  · exact Nat.le_trans o (by decide)
  · split
    · split
      · rw [List.length_append]
        exact Nat.add_le_add o (Nat.le_refl 1)
      · exact Nat.le_trans o (by decide)
    · split
      · split
        · rw [List.length_append]
          exact Nat.add_le_add o (Nat.le_refl 1)
        · exact Nat.le_trans o (by decide)
      · exact Nat.le_trans o (by decide)
theorem runs_len (p : Policy) : ∀ (B : List Event) (s : Run), (runs p s B).1.length ≤ 2 * B.length
  | [], _ => Nat.zero_le _
  | e :: r, s => by
    have ih := runs_len p r (taken p s e).2
    have t := taken_len p s e
    show ((taken p s e).1 ++ (runs p (taken p s e).2 r).1).length ≤ _
    rw [List.length_append, List.length_cons]
    omega
theorem strokes_len (p : Policy) (l : List Event) (now : Nat) : (strokesOf p l now).length ≤ 2 * l.length + 1 := by
  rw [strokes_sv]
  unfold fin
  show ((runs p resting (sv p l now).1).1 ++ (over p (runs p resting (sv p l now).1).2 (reachOf now (sv p l now).2)).1).length ≤ _
  have o := over_len p (runs p resting (sv p l now).1).2 (reachOf now (sv p l now).2)
  have r := runs_len p (sv p l now).1 resting
  have s := (sieve_sub p.bounce now (tagC p.bounce noUps (changes 0 l))).length_le
  rw [List.length_append, tagC_fst] at s
  have c := (changes_sub l 0).length_le
  rw [List.length_append]
  have e : (sv p l now).1.length = (sieve p.bounce now (tagC p.bounce noUps (changes 0 l))).1.length := rfl
  omega
theorem flat2 {α : Type} (f : α → List Nat) (hf : ∀ x, (f x).length = 2) : ∀ l : List α, (l.flatMap f).length = 2 * l.length
  | [] => rfl
  | a :: r => by
    rw [List.flatMap_cons, List.length_append, hf, flat2 f hf r, List.length_cons]
    omega
theorem flat4 {α : Type} (f : α → List Nat) (hf : ∀ x, (f x).length = 4) : ∀ l : List α, (l.flatMap f).length = 4 * l.length
  | [] => rfl
  | a :: r => by
    rw [List.flatMap_cons, List.length_append, hf, flat4 f hf r, List.length_cons]
    omega
theorem plain_len (size : Nat) (s : Line) (x : UInt8) : (plain size s x).1.length ≤ 1 := by
  unfold plain
  dsimp only
  split
  · dsimp only
    split
    · exact Nat.le_refl _
    · exact Nat.zero_le _
  · split
    · exact Nat.le_refl _
    · split
      · exact Nat.zero_le _
      · exact Nat.le_refl _
theorem numbered_len (size : Nat) (s : Line) (x : UInt8) : (numbered size s x).1.length ≤ 1 := by
  unfold numbered
  dsimp only
  repeat' split
  all_goals first | exact Nat.le_refl _ | exact Nat.zero_le _
theorem receive_len (size which : Nat) : ∀ (b : Cd.Bytes) (s : Line), (receive size which s b).1.length ≤ b.length
  | [], _ => Nat.le_refl _
  | x :: r, s => by
    show ((if which = 0 then plain size s x else numbered size s x).1 ++ (receive size which (if which = 0 then plain size s x else numbered size s x).2 r).1).length ≤ _
    have h1 : (if which = 0 then plain size s x else numbered size s x).1.length ≤ 1 := by
      split
      · exact plain_len _ _ _
      · exact numbered_len _ _ _
    have h2 := receive_len size which r (if which = 0 then plain size s x else numbered size s x).2
    rw [List.length_append, List.length_cons]
    omega
theorem merged_len : ∀ (a b : List Event), (merged a b).length = a.length + b.length
  | [], b => by
    unfold merged
    rw [List.length_nil, Nat.zero_add]
  | x :: a, [] => by
    unfold merged
    rw [List.length_nil, Nat.add_zero]
  | x :: a, y :: b => by
    unfold merged
    split
    · rw [List.length_cons, merged_len a (y :: b), List.length_cons, List.length_cons]
      omega
    · rw [List.length_cons, merged_len (x :: a) b, List.length_cons, List.length_cons]
      omega
  termination_by a b => a.length + b.length
theorem sevens_len : ∀ (f n : Nat), (sevens f n).length ≤ f
  | 0, _ => Nat.le_refl _
  | f + 1, n => by
    unfold sevens
    split
    · exact Nat.succ_le_succ (Nat.zero_le _)
    · exact Nat.succ_le_succ (sevens_len f _)
theorem turned_len : ∀ b : Cd.Bytes, (b.flatMap turned).length ≤ 2 * b.length
  | [] => Nat.le_refl _
  | x :: r => by
    have ih := turned_len r
    have h : (turned x).length ≤ 2 := by
      unfold turned
      split
      · exact Nat.le_refl _
      · exact Nat.le_succ _
    rw [List.flatMap_cons, List.length_append, List.length_cons]
    omega
theorem frame_len (n t c : Nat) : (frame n t c).length ≤ 28 := by
  unfold frame
  have h := turned_len (body n t c)
  have b : (body n t c).length ≤ 13 := by
    unfold body
    dsimp only
    rw [List.length_append, List.length_cons, List.length_append]
    have s := sevens_len 4 t
    have l : (low6 c).length = 6 := by
      unfold low6
      rw [List.length_map, List.length_range]
    show (sevens 4 t).length + (low6 c).length + 1 + 2 ≤ 13
    omega
  rw [List.length_cons, List.length_append]
  show (List.flatMap turned (body n t c)).length + 1 + 1 ≤ 28
  omega
/-- the news that are kept, the answer's length -/
def Bnd (s s' : State) (c : Call) (x : Answer) : Prop := 2 * newsLen s' ≤ 2 * newsLen s + callSz c ∧ (toldLen x ≤ 4 * newsLen s' + 2700 ∨ toldLen x ≤ 4 * callSz c + 2700)
theorem bnd_same {s : State} {c : Call} {x : Answer} (h : toldLen x ≤ 2700) : Bnd s s c x := ⟨by omega, Or.inl (by omega)⟩
theorem desk_bnd (d : Desk) (hd : d.keyboard.ok = true) (c : Call) : Bnd (some d) (some (onDesk d c).1) c (onDesk d c).2 := by
  cases c with
  | begin_ l g a b r => exact bnd_same (Nat.zero_le _)
  | policy w b g =>
    show Bnd (some d) (some (if (⟨w, b, g⟩ : Policy).ok = true then ({ d with policy := ⟨w, b, g⟩, news := [], told := 0 }, says 0) else (d, BAD)).1) _ (if (⟨w, b, g⟩ : Policy).ok = true then (({ d with policy := ⟨w, b, g⟩, news := [], told := 0 } : Desk), says 0) else (d, BAD)).2
    split
    · exact ⟨by show 2 * 0 ≤ _; omega, Or.inl (Nat.zero_le _)⟩
    · exact bnd_same (Nat.zero_le _)
  | feed e now =>
    cases q : eventsIn e with
    | none =>
      have st : onDesk d (.feed e now) = (d, BAD) := by simp only [onDesk, q]
      rw [st]
      exact bnd_same (Nat.zero_le _)
    | some l =>
      have le := evs_length q
      by_cases c1 : EVENTS < l.length ∨ comes d.keyboard.size d.now now l = false
      · have st : onDesk d (.feed e now) = (d, BAD) := by simp only [onDesk, q, if_pos c1]
        rw [st]
        exact bnd_same (Nat.zero_le _)
      · by_cases c2 : WAIT < (waiting d.policy (d.news ++ l) now).length
        · have st : onDesk d (.feed e now) = (d, FULL) := by simp only [onDesk, q, if_neg c1, if_pos c2]
          rw [st]
          exact bnd_same (Nat.zero_le _)
        · have st : onDesk d (.feed e now) = ({ d with news := d.news ++ l, now := now, told := (strokesOf d.policy (d.news ++ l) now).length }, tells [.l (((strokesOf d.policy (d.news ++ l) now).drop d.told).flatMap fun (x : Cd.Stroke) => [x.chord, x.tick])]) := by simp only [onDesk, q, if_neg c1, if_neg c2]
          rw [st]
          have sl := strokes_len d.policy (d.news ++ l) now
          have al : (d.news ++ l).length = d.news.length + l.length := List.length_append
          have nl : newsLen (some { d with news := d.news ++ l, now := now, told := (strokesOf d.policy (d.news ++ l) now).length }) = (d.news ++ l).length := rfl
          refine ⟨?_, Or.inl ?_⟩
          · dsimp only
            rw [nl, al]
            show 2 * (d.news.length + l.length) ≤ 2 * d.news.length + e.length
            omega
          · dsimp only
            rw [nl, told_l, flat2 _ (fun _ => rfl), List.length_drop]
            omega
  | held => exact bnd_same (by show 1 ≤ 2700; decide)
  | write o =>
    show Bnd (some d) (some d) _ (if d.keyboard.outlineOk o = true then tells [.t (Cd.bytesOf (d.keyboard.outline o))] else BAD)
    split
    · rename_i y
      refine bnd_same ?_
      rw [told_t]
      have h1 := outB_len hd o
      have e : (outB d.keyboard o).length = (Cd.bytesOf (d.keyboard.outline o)).length := List.length_map _
      have h2 : o.length ≤ 10 := by
        unfold Keyboard.outlineOk at y
        rw [Bool.and_eq_true, Bool.and_eq_true, decide_eq_true_eq, decide_eq_true_eq] at y
        exact y.2.1
      omega
    · exact bnd_same (Nat.zero_le _)
  | read b =>
    by_cases c1 : 4096 < b.length
    · have st : onDesk d (.read b) = (d, BAD) := by simp only [onDesk, if_pos c1]
      rw [st]
      exact bnd_same (Nat.zero_le _)
    · cases z : d.keyboard.read b with
      | ok o =>
        rw [read_ok c1 z]
        refine bnd_same ?_
        rw [told_l]
        have : o.length ≤ 10 := read_len _ _ _ _ (by show 0 + 1 ≤ 10; decide) _ z
        omega
      | error p =>
        rw [read_err c1 z]
        exact bnd_same (by show 1 ≤ 2700; decide)
  | merge a b => exact bnd_same (Nat.zero_le _)
  | send c => exact bnd_same (Nat.zero_le _)
  | frame n t c => exact bnd_same (Nat.zero_le _)
  | line w =>
    by_cases c1 : w ≤ 1
    · have st : onDesk d (.line w) = ({ d with which := w, line := fresh }, says 0) := by simp only [onDesk, if_pos c1]
      rw [st]
      exact ⟨by show 2 * d.news.length ≤ _; exact Nat.le_add_right _ _, Or.inl (Nat.zero_le _)⟩
    · have st : onDesk d (.line w) = (d, BAD) := by simp only [onDesk, if_neg c1]
      rw [st]
      exact bnd_same (Nat.zero_le _)
  | take b =>
    by_cases c1 : BYTES < b.length
    · have st : onDesk d (.take b) = (d, BAD) := by simp only [onDesk, if_pos c1]
      rw [st]
      exact bnd_same (Nat.zero_le _)
    · have st : onDesk d (.take b) = ({ d with line := (receive d.keyboard.size d.which d.line b).2 }, tells [.l ((receive d.keyboard.size d.which d.line b).1.flatMap gotNums)]) := by simp only [onDesk, if_neg c1]
      rw [st]
      refine ⟨by show 2 * d.news.length ≤ _; exact Nat.le_add_right _ _, Or.inr ?_⟩
      rw [told_l, flat4 _ (fun x => by cases x <;> rfl)]
      have := receive_len d.keyboard.size d.which b d.line
      show 4 * _ + 1 ≤ 4 * b.length + 2700
      omega
theorem step_bnd (s : State) (hs : ∀ d, s = some d → d.keyboard.ok = true) (c : Call) : Bnd s (KeysCalls.step s c).1 c (KeysCalls.step s c).2 := by
  have desk : alone c = none → (∀ l g a b r, c ≠ .begin_ l g a b r) → KeysCalls.step s c = match s with
      | none => (none, EARLY)
      | some d => (some (onDesk d c).1, (onDesk d c).2) := by
    intro h n
    unfold KeysCalls.step
    rw [h]
    cases c with
    | begin_ l g a b r => exact absurd rfl (n l g a b r)
    | _ => cases s <;> rfl
  have go : alone c = none → (∀ l g a b r, c ≠ .begin_ l g a b r) → Bnd s (KeysCalls.step s c).1 c (KeysCalls.step s c).2 := by
    intro h n
    rw [desk h n]
    cases s with
    | none => exact bnd_same (Nat.zero_le _)
    | some d => exact desk_bnd d (hs d rfl) c
  cases c with
  | begin_ l g a b r =>
    rw [step_begin]
    split
    · exact ⟨by show 2 * 0 ≤ _; omega, Or.inl (Nat.zero_le _)⟩
    · exact bnd_same (Nat.zero_le _)
  | merge a b =>
    show Bnd s s _ (match eventsIn a, eventsIn b with
      | some x, some y => if ROWS < x.length ∨ ROWS < y.length ∨ inOrder x = false ∨ inOrder y = false then BAD else tells [.l ((merged x y).flatMap eventNums)]
      | _, _ => BAD)
    cases qa : eventsIn a with
    | none => exact bnd_same (Nat.zero_le _)
    | some x =>
      cases qb : eventsIn b with
      | none => exact bnd_same (Nat.zero_le _)
      | some y =>
        dsimp only
        split
        · exact bnd_same (Nat.zero_le _)
        · refine ⟨by omega, Or.inr ?_⟩
          rw [told_l, flat2 _ (fun _ => rfl), merged_len]
          have h1 := evs_length qa
          have h2 := evs_length qb
          show _ ≤ 4 * (a.length + b.length) + 2700
          omega
  | send c =>
    show Bnd s s _ (if Cd.chordOk c = true then tells [.t (packet c)] else BAD)
    split
    · exact bnd_same (by rw [told_t]; show 7 + 1 ≤ 2700; decide)
    · exact bnd_same (Nat.zero_le _)
  | frame n t c =>
    show Bnd s s _ (if 255 < n ∨ TICKS ≤ t ∨ Cd.chordOk c = false then BAD else tells [.t (CdKeys.frame n t c)])
    split
    · exact bnd_same (Nat.zero_le _)
    · refine bnd_same ?_
      rw [told_t]
      have := frame_len n t c
      omega
  | policy w b g => exact go rfl fun _ _ _ _ _ z => by cases z
  | feed e now => exact go rfl fun _ _ _ _ _ z => by cases z
  | held => exact go rfl fun _ _ _ _ _ z => by cases z
  | write o => exact go rfl fun _ _ _ _ _ z => by cases z
  | read b => exact go rfl fun _ _ _ _ _ z => by cases z
  | line w => exact go rfl fun _ _ _ _ _ z => by cases z
  | take b => exact go rfl fun _ _ _ _ _ z => by cases z
end Kx

-- KHall5
/-! Hall: line, take. -/
namespace Kx
open PySem PySem.Spec PyProof.Rows L2 Evl KeysCalls

theorem gotNums_len (x : CdKeys.Got) : (gotNums x).length = 4 := by
  cases x <;> rfl
theorem lineStep_len (size which : Nat) (s : CdKeys.Line) (x : UInt8) : (lineStep size which s x).1.length ≤ 1 := by
  unfold lineStep
  split
  · exact plain_len size s x
  · exact numbered_len size s x
theorem DeskOk.lined {d : Desk} (h : DeskOk d) (w : Nat) (l : CdKeys.Line) : DeskOk { d with which := w, line := l } := ⟨h.ord, h.keys, h.size, h.kok, h.told, h.few⟩
section
variable {K : PySem.W.Frag} {σ : L2.St} {H : Hp} {ta te : TE} {xs : List V} {D : Ends} {g : Addr}
theorem s_extendW (hl : H g = some (.lst xs)) (ha : Ev ta σ H (.ref g)) (k : ∀ H1, Evl.Ex H H1 → te σ H1 fun v H2 => rExtend (.ref g) [v] H2 fun _ H3 => D.nx σ H3) : tDrop (tBM K "list" rExtend ta (tCons te tNil)) D σ H := ha H (Evl.Ex.refl H) _ fun H1 e1 =>
  ⟨Or.inl ⟨rfl, xs, sq_of (e1 g _ hl)⟩, k H1 e1⟩
end
section
variable {CH CB CN CS CP CM : Addr} {H H' : Hp} {a : Addr} {d : Desk} {S : List Addr} {dx bA nA bdx lA dA : Addr} {bs : List Addr} {ndx uA wA sA sdx mA : Addr} {as : List Addr} {xA : Addr} {L : List Addr}
theorem NewsAt.fr2 {T : List Addr} {nA : Addr} {p : CdKeys.Policy} {m : NewsM} {n : Nat} {dx uA wA sA sdx mA : Addr} {as : List Addr} (f : Fr T H H') (h : NewsAt CN CS H nA p m n dx uA wA sA sdx mA as)
    (n1 : nA ∉ T) (n3 : wA ∉ T) (n4 : sA ∉ T) (n5 : mA ∉ T) (nu : ∀ kvs, H uA = some (.dK kvs) → uA ∉ T) (nt : ∀ t ∈ T, ∀ xs, H t ≠ some (.tup xs)) : NewsAt CN CS H' nA p m n dx uA wA sA sdx mA as := by
  refine h.fr f n1 ?_ n3 n4 n5 nt
  obtain ⟨kvs, g, _⟩ := h.ups
  exact nu kvs g
/-- the line alone has changed -/
theorem rewired {l : CdKeys.Line} {Li : List Addr} (h : DeskW CH CB CN CS CP CM H a d S dx bA nA bdx lA dA bs ndx uA wA sA sdx mA as xA L) (f : Fr L H H') (ln : LineAt CP CM H' xA d.which l bA Li) (hLi : ∀ z ∈ Li, z ∈ L ∨ H z = none) :
    DeskW CH CB CN CS CP CM H' a { d with line := l } ((a :: nA :: sA :: mA :: wA :: lA :: dA :: bs) ++ Li) dx bA nA bdx lA dA bs ndx uA wA sA sdx mA as xA Li := by
  have dj : ∀ c, c ∈ bA :: a :: nA :: sA :: mA :: wA :: lA :: dA :: bs → c ∉ L := fun c hc z => h.dj c z hc
  have kd := h.ln.kinds
  refine ⟨f _ _ h.ob (dj _ (by simp)), h.bd.fr f (dj _ (by simp)) (dj _ (by simp)) (dj _ (by simp)) (fun c hc => dj _ (by simp [hc])), h.nw.fr2 f (dj _ (by simp)) (dj _ (by simp)) (dj _ (by simp)) (dj _ (by simp)) (fun kvs q z => ?_) (fun t ht xs q => ?_), h.ok.lined _ _, ln, rfl, h.lm, h.dm, h.bm, fun z hz c => ?_⟩
  · rcases kd _ z with ⟨_, _, _, m | m⟩ | ⟨_, m⟩ <;> (rw [q] at m; cases m)
  · rcases kd _ ht with ⟨_, _, _, m | m⟩ | ⟨_, m⟩ <;> (rw [q] at m; cases m)
  · rcases hLi z hz with m | m
    · exact h.dj z m c
    · simp only [List.mem_cons] at c
      rcases c with rfl | rfl | rfl | rfl | rfl | rfl | rfl | rfl | c
      · rw [h.bd.ob] at m; cases m
      · rw [h.ob] at m; cases m
      · rw [h.nw.ob] at m; cases m
      · rw [h.nw.st.ob] at m; cases m
      · rw [h.nw.st.ls] at m; cases m
      · rw [h.nw.ws.1] at m; cases m
      · rw [h.bd.ls] at m; cases m
      · rw [h.bd.ds] at m; cases m
      · obtain ⟨xs, q⟩ := rows_lst h.bd.rows c
        rw [m] at q
        cases q
end
section
variable {P : Program} {w : World} {K : PySem.W.Frag} {mg : Str → Option Value} {base : Heap} {CBoard CNumberedLine CStrokes CNews CPart CPlainLine CHall : Addr}
/-! ### line -/
/-- a new line at the wire -/
theorem newWire (T : Tx K mg CBoard CNumberedLine CStrokes CNews CPart CPlainLine CHall) {H H11 : Hp} {a : Addr} {d : Desk} {S : List Addr} {dx bA nA bdx lA dA : Addr} {bs : List Addr} {ndx uA wA sA sdx mA : Addr} {as : List Addr} {xA : Addr} {L : List Addr} (h : DeskW CHall CBoard CNews CStrokes CPlainLine CNumberedLine H a d S dx bA nA bdx lA dA bs ndx uA wA sA sdx mA as xA L)
    (e : Evl.Ex H H11) {z which : Nat} {l : CdKeys.Line} {L' : List Addr} (hL : ∀ b ∈ L', H b = none) (ln : LineAt CPlainLine CNumberedLine H11 z which l bA L') :
    DeskW CHall CBoard CNews CStrokes CPlainLine CNumberedLine (upd H11 a (.ins CHall dx (putF "wire" (.ref z) (hF (.ref bA) (.ref nA) d.now (.ref xA))))) a { d with which := which, line := l } ((a :: nA :: sA :: mA :: wA :: lA :: dA :: bs) ++ L') dx bA nA bdx lA dA bs ndx uA wA sA sdx mA as z L' := by
  have f12 : Fr [a] H11 (upd H11 a (.ins CHall dx (putF "wire" (.ref z) (hF (.ref bA) (.ref nA) d.now (.ref xA))))) := Fr.upd (by simp)
  have o11 := e _ _ h.ob
  have b11 := h.bd.ex e
  have n11 := h.nw.ex e
  have na11 : ∀ b o, H11 b = some o → (∀ C dx fs, o ≠ HO.ins C dx fs) → b ∉ [a] := fun b o q no z => by
    rw [List.mem_singleton] at z
    subst z
    rw [o11] at q
    exact no _ _ _ (Option.some.inj q).symm
  have kn : ∀ b ∈ L', ∀ o, H b ≠ some o := fun b hb o q => by
    rw [hL b hb] at q
    cases q
  refine ⟨upd_same, b11.fr f12 ?_ (na11 _ _ b11.ls fun _ _ _ z => by cases z) (na11 _ _ b11.ds fun _ _ _ z => by cases z) (fun b hb => ?_), ?_, h.ok.lined _ _, ln.fr f12 (fun b hb c => ?_), rfl, h.lm, h.dm, h.bm, ?_⟩
  · rw [List.mem_singleton]
    exact ne_cls b11.ob o11 T.d_Board_Hall
  · obtain ⟨xs, q⟩ := rows_lst b11.rows hb
    exact na11 _ _ q fun _ _ _ z => by cases z
  · have ndk : uA ≠ a := by
      obtain ⟨kvs, g, _⟩ := n11.ups
      exact ne_dk_ins g o11
    refine n11.fr f12 ?_ (by simpa using ndk) (na11 _ _ n11.ws.1 fun _ _ _ z => by cases z) ?_ (na11 _ _ n11.st.ls fun _ _ _ z => by cases z) ?_
    · rw [List.mem_singleton]
      exact ne_cls n11.ob o11 T.d_News_Hall
    · rw [List.mem_singleton]
      exact ne_cls n11.st.ob o11 T.d_Strokes_Hall
    · intro t ht xs q
      rw [List.mem_singleton] at ht
      subst ht
      rw [o11] at q
      cases q
  · rw [List.mem_singleton] at c
    subst c
    exact kn _ hb _ h.ob
  · intro b hb c
    simp only [List.mem_cons] at c
    rcases c with rfl | rfl | rfl | rfl | rfl | rfl | rfl | rfl | c
    · exact kn _ hb _ h.bd.ob
    · exact kn _ hb _ h.ob
    · exact kn _ hb _ h.nw.ob
    · exact kn _ hb _ h.nw.st.ob
    · exact kn _ hb _ h.nw.st.ls
    · exact kn _ hb _ h.nw.ws.1
    · exact kn _ hb _ h.bd.ls
    · exact kn _ hb _ h.bd.ds
    · obtain ⟨xs, q⟩ := rows_lst h.bd.rows c
      exact kn _ hb _ q
def spHallLine (CH CB CN CS CP CM : Addr) : Sp := fun vs H Q _ => ∃ (a wh : Nat) (d : Desk) (S : List Addr), vs = [.ref a, vn wh] ∧ HallAt CH CB CN CS CP CM H a (some d) S ∧ HallDoes CH CB CN CS CP CM H a S (some (onDesk d (.line wh)).1) (onDesk d (.line wh)).2 Q
theorem scHallLine : FnScope ["self", "which"] ["self", "which"] (defScope tHallLine) := ⟨rfl, rfl, rfl, by decide +kernel, rfl, by decide +kernel, by decide +kernel⟩
theorem ok_Hall_line {f f1 f2 : Addr} {fd fd1 fd2 : FuncData} (D : RawM K CHall "line" "Hall.line" tHallLine f fd) (T : Tx K mg CBoard CNumberedLine CStrokes CNews CPart CPlainLine CHall) (G_PlainLine : OkC P w K mg base 1 "PlainLine" CPlainLine ["self", "board"] (spLineInit CPlainLine CPlainLine CNumberedLine 0) f1 fd1)
    (G_NumberedLine : OkC P w K mg base 1 "NumberedLine" CNumberedLine ["self", "board"] (spLineInit CNumberedLine CPlainLine CNumberedLine 1) f2 fd2) :
    OkM P w K mg base 3 CHall "line" ["self", "which"] (spHallLine CHall CBoard CNews CStrokes CPlainLine CNumberedLine) f fd := by
  refine ⟨D.fn.ok scHallLine (fun vs H Q E h => ?_) (fun cdv A outer s H vs Q E hr h => ⟨_,
    (pss_cons (ps_if (pt_cmpR on_eq (pv 1) (pe_gi T.g_PLAIN) (nomark _)) (pss_one (ps_fld (pv 0) (pe_mkOwn G_PlainLine hr (pa_cons (pe_fld (pv 0) rfl) pa_nil)) rfl)) (pss_one (ps_if (pt_cmpR on_eq (pv 1) (pe_gi T.g_NUMBERED) (nomark _)) (pss_one (ps_fld (pv 0) (pe_mkOwn G_NumberedLine hr (pa_cons (pe_fld (pv 0) rfl) pa_nil)) rfl)) (pss_one (ps_ret (pe_lst (pa_cons (pe_un un_neg pe_n) pa_nil)))))))
      (pss_one (ps_ret (pe_lst (pa_cons pe_n pa_nil))))), ?_⟩), D.at_, D.fn.binds fun _ _ _ _ _ _ us hl => match us, hl with | [_, _], _ => rfl⟩
  · obtain ⟨a, wh, d, S, rfl, _⟩ := h
    rfl
  · obtain ⟨a, wh, d, S, rfl, hH, k⟩ := h
    obtain ⟨dx, bA, nA, bdx, lA, dA, bs, ndx, uA, wA, sA, sdx, mA, as, xA, L, h⟩ := id hH
    have aS : a ∈ S := hH.ins.1
    -- what follows a new line at the wire
    have fin : ∀ (C : Addr) (H1 H11 : Hp) (z zd : Addr) (L' : List Addr), Evl.Ex H H1 → H1 z = none → H1 zd = none → zd ≠ z → wh ≤ 1 → Fr [z] (born H1 C z zd) H11 → (∀ b ∈ L', b = z ∨ (born H1 C z zd) b = none) → LineAt CPlainLine CNumberedLine H11 z wh CdKeys.fresh bA L' →
        ∀ H12, Evl.Ex (upd H11 a (.ins CHall dx (putF "wire" (.ref z) (hF (.ref bA) (.ref nA) d.now (.ref xA))))) H12 → ∀ r, H12 r = some (.lst (ansV (says 0))) → Q (.ref r) H12 := by
      intro C H1 H11 z zd L' e1 hz hzd nz w1 f11 hL ln H12 e12 r hr
      have bz := born_ex (C := C) hz hzd nz
      have zH : H z = none := fresh_back e1 hz
      have e11 : Evl.Ex H H11 := fun b o q => f11 _ _ (bz _ _ (e1 _ _ q)) (by
        intro c
        rw [List.mem_singleton] at c
        subst c
        rw [zH] at q
        cases q)
      have hL' : ∀ b ∈ L', H b = none := fun b hb => by
        rcases hL b hb with c | c
        · rw [c]
          exact zH
        · exact fresh_back (e1.trans bz) c
      have st : onDesk d (.line wh) = ({ d with which := wh, line := CdKeys.fresh }, says 0) := if_pos w1
      rw [st] at k
      have dW := newWire T h e11 hL' ln
      refine k H12 r _ ?_ (fun b hb => ?_) (HallAt.ex e12 ⟨_, _, _, _, _, _, _, _, _, _, _, _, _, _, _, _, dW⟩) hr
      · intro b o q nb
        refine e12 _ _ ((upd_ne ?_).trans (e11 _ _ q))
        rintro rfl
        exact nb aS
      · rw [h.own]
        rcases List.mem_append.mp hb with m | m
        · exact Or.inl (List.mem_append_left _ m)
        · exact Or.inr (hL' b m)
    have ev0 : ∀ {H' : Hp}, Evl.Ex H H' → Ev (tFld K (tVar 0) "board") [some (.ref a), some (vn wh)] H' (.ref bA) := fun e => ev_fld (ev_var rfl) (e _ _ h.ob) T.c_Hall T.n_Hall_board rfl
    refine q_if (etN (g := fun n m => decide (n = m)) (n := wh) (m := 0) (ev_var rfl) ev_c trivial) (fun b1 H1 e1 => ?_) (fun b1 H1 e1 => ?_)
    · have w0 := of_decide_eq_true b1
      subst w0
      refine s_fldM (a := a) (ea_cons (ev0 e1) ea_nil) (fun _ _ => ev_var rfl) fun z zd H2 e2 hz hzd nz => ?_
      have bz := born_ex (C := CPlainLine) hz hzd nz
      refine ⟨z, zd, bA, rfl, born_at, fun H3 L' f3 hL ln => ⟨rfl, ?_⟩⟩
      have o3 : H3 a = some (.ins CHall dx (hF (.ref bA) (.ref nA) d.now (.ref xA))) := f3 _ _ (bz _ _ ((e1.trans e2) _ _ h.ob)) (by
        rw [List.mem_singleton]
        rintro rfl
        rw [(e1.trans e2) _ _ h.ob] at hz
        cases hz)
      refine ⟨.ref a, rfl, a, CHall, dx, _, rfl, o3, T.c_Hall, T.n_Hall_wire, (by show 4 < 1000; decide), ?_⟩
      refine s_retL (σ := [some (.ref a), some (vn 0)]) (el_lst (ea_cons ev_n ea_nil) few) fun r H4 hr e4 h4 => ?_
      exact fin CPlainLine H2 H3 z zd L' (e1.trans e2) hz hzd nz (by decide) f3 hL ln H4 e4 r h4
    have n0 := of_decide_eq_false b1
    refine s_if (etN (g := fun n m => decide (n = m)) (n := wh) (m := 1) (ev_var rfl) ev_c trivial) (fun b2 H2 e2 => ?_) (fun b2 H2 e2 => ?_)
    · have w1 := of_decide_eq_true b2
      subst w1
      have e12 := e1.trans e2
      refine s_fldM (a := a) (ea_cons (ev0 e12) ea_nil) (fun _ _ => ev_var rfl) fun z zd H3 e3 hz hzd nz => ?_
      have bz := born_ex (C := CNumberedLine) hz hzd nz
      refine ⟨z, zd, bA, rfl, born_at, fun H4 L' f4 hL ln => ⟨rfl, ?_⟩⟩
      have o4 : H4 a = some (.ins CHall dx (hF (.ref bA) (.ref nA) d.now (.ref xA))) := f4 _ _ (bz _ _ ((e12.trans e3) _ _ h.ob)) (by
        rw [List.mem_singleton]
        rintro rfl
        rw [(e12.trans e3) _ _ h.ob] at hz
        cases hz)
      refine ⟨.ref a, rfl, a, CHall, dx, _, rfl, o4, T.c_Hall, T.n_Hall_wire, (by show 4 < 1000; decide), ?_⟩
      refine s_retL (σ := [some (.ref a), some (vn 1)]) (el_lst (ea_cons ev_n ea_nil) few) fun r H5 hr e5 h5 => ?_
      exact fin CNumberedLine H3 H4 z zd L' (e12.trans e3) hz hzd nz (by decide) f4 hL ln H5 e5 r h5
    · have n1 := of_decide_eq_false b2
      have st : onDesk d (.line wh) = (d, BAD) := if_neg (by omega)
      rw [st] at k
      have e12 := e1.trans e2
      refine s_retL el_neg1 fun r H3 hr e3 h3 => ?_
      exact k H3 r S (Fr.of (e12.trans e3)) (fun b hb => Or.inl hb) (hH.ex (e12.trans e3)) h3

/-! ### take -/
def spHallTake (CH CB CN CS CP CM : Addr) : Sp := fun vs H Q _ => ∃ (a tA : Addr) (b : Cd.Bytes) (d : Desk) (S : List Addr), vs = [.ref a, .ref tA] ∧ HallAt CH CB CN CS CP CM H a (some d) S ∧ H tA = some (.lst (vns (tN b))) ∧ tA ∉ S ∧ b.length ≤ 19000 ∧
  HallDoes CH CB CN CS CP CM H a S (some (onDesk d (.take b)).1) (onDesk d (.take b)).2 Q
theorem scHallTake : FnScope ["self", "some", "told", "byte"] ["self", "some"] (defScope tHallTake) := ⟨rfl, rfl, rfl, by decide +kernel, rfl, by decide +kernel, by decide +kernel⟩
theorem ok_Hall_take {f f1 f2 f3 : Addr} {fd fd1 fd2 fd3 : FuncData} (D : RawM K CHall "take" "Hall.take" tHallTake f fd) (T : Tx K mg CBoard CNumberedLine CStrokes CNews CPart CPlainLine CHall)
    (G_PlainLine_receive : OkM P w K mg base 4 CPlainLine "receive" ["self", "byte"] (spReceive CPlainLine CNumberedLine CBoard (fun n => n = 0)) f1 fd1) (G_NumberedLine_receive : OkM P w K mg base 5 CNumberedLine "receive" ["self", "byte"] (spReceive CPlainLine CNumberedLine CBoard (fun n => n ≠ 0)) f2 fd2)
    (G_counted : Ok P w K mg base 1 "counted" ["row"] spCounted f3 fd3) :
    OkM P w K mg base 6 CHall "take" ["self", "some"] (spHallTake CHall CBoard CNews CStrokes CPlainLine CNumberedLine) f fd := by
  refine ⟨D.fn.ok scHallTake (fun vs H Q E h => ?_) (fun cdv A outer s H vs Q E hr h => ?_), D.at_, D.fn.binds fun _ _ _ _ _ _ us hl => match us, hl with | [_, _], _ => rfl⟩
  · obtain ⟨a, tA, b, d, S, rfl, _⟩ := h
    rfl
  obtain ⟨a, tA, b, d, S, rfl, hH, hT, tS, hl, k⟩ := h
  obtain ⟨dx, bA, nA, bdx, lA, dA, bs, ndx, uA, wA, sA, sdx, mA, as, xA, L, h⟩ := id hH
  have tL : tA ∉ L := fun z => tS (by rw [h.own]; exact List.mem_append_right _ z)
  by_cases wz : d.which = 0
  · have wob : ∀ H' l' L', LineAt CPlainLine CNumberedLine H' xA d.which l' bA L' → ∃ dx fs, H' xA = some (.ins CPlainLine dx fs) ∧ fs.lookup ("receive" : Str) = none := fun H' l' L' ln => by
      rw [wz] at ln
      obtain ⟨dx, pA, start, pk, _, q⟩ := ln
      exact ⟨dx, _, q.ob, rfl⟩
    have wok : d.which = 0 := wz
    refine ⟨_,
    (pss_cons (ps_set (i := 2) scHallTake.nd rfl (Or.inl rfl) (pe_lst pa_nil))
      (pss_cons (ps_for PassesOwn.never rfl (pi_list (pv 1)) (pg_name (i := 3) scHallTake.nd rfl (Or.inl rfl)) (pss_one (ps_expr (pe_bm PySem.F.plainAttrs_list PySem.F.slot_list_extend PySem.F.type_list_extend mt_extend (pv 2) (pa_cons (pe_ownM G_PlainLine_receive T.c_PlainLine hr (pe_fld (pv 0) rfl) (pa_cons (pv 3) pa_nil)) pa_nil)))))
      (pss_one (ps_ret (pe_op op_cat (pe_lst (pa_cons pe_n pa_nil)) (pe_own G_counted hr (pa_cons (pv 2) pa_nil)))))))
    , ?_⟩
    -- told = []
    refine q_asgL (el_lst ea_nil few) fun g H1 hg e1 h1 => ?_
    refine q_forLn (j := 3) (ev_var rfl) (sq_of (e1 _ _ hT)) (fun i σ' H' => ∃ (v3 : Option V) (Li : List Addr), σ' = [some (.ref a), some (.ref tA), some (.ref g), v3] ∧ Fr L H H' ∧ (∀ z ∈ Li, z ∈ L ∨ H z = none) ∧ LineAt CPlainLine CNumberedLine H' xA d.which (CdKeys.receive d.keyboard.size d.which d.line (b.take i)).2 bA Li ∧
        H' g = some (.lst (vns (gots (CdKeys.receive d.keyboard.size d.which d.line (b.take i)).1))) ∧ g ∉ Li)
      (fun H2 e2 => ⟨none, L, rfl, Fr.of (e1.trans e2), fun z hz => Or.inl hz, h.ln.ex (e1.trans e2), e2 _ _ h1, fun z => h.ln.known g z hg⟩)
      (fun i σ' H' _ ⟨_, _, _, f, _⟩ => sq_of (f _ _ hT tL)) ?_ ?_
    · rintro i x σ' H' hi ⟨v3, Li, rfl, f, hLi, ln, hG, gL⟩
      obtain ⟨y, hy, rfl⟩ := tN_get hi
      have i1 := (List.getElem?_eq_some_iff.mp hy).1
      have rsn := receive_snoc d.keyboard.size d.which (b.take i) y d.line
      rw [← take_more hy] at rsn
      have rl := receive_len d.keyboard.size d.which (b.take i) d.line
      generalize CdKeys.receive d.keyboard.size d.which d.line (b.take i) = X at ln hG rsn rl
      obtain ⟨wdx, wfs, wo, wn⟩ := wob _ _ _ ln
      have out : BdOut CBoard H' bA d.keyboard Li := by
        have q := h.bd.fr f (fun z => h.dj _ z (by simp)) (fun z => h.dj _ z (by simp)) (fun z => h.dj _ z (by simp)) (fun c hc z => h.dj _ z (by simp [hc]))
        refine ⟨bdx, lA, dA, bs, q, fun z hz c => ?_⟩
        rcases hLi z hz with m | m
        · refine h.dj z m ?_
          simp only [List.mem_cons] at c ⊢
          rcases c with c | c | c | c <;> simp [c]
        · simp only [List.mem_cons] at c
          rcases c with c | c | c | c
          · rw [c, h.bd.ob] at m
            cases m
          · rw [c, h.bd.ls] at m
            cases m
          · rw [c, h.bd.ds] at m
            cases m
          · obtain ⟨xs, q2⟩ := rows_lst h.bd.rows c
            rw [m] at q2
            cases q2
      have oa : H' a = some (.ins CHall dx (hF (.ref bA) (.ref nA) d.now (.ref xA))) := f _ _ h.ob (fun z => h.dj _ z (by simp))
      refine s_extendW hG (ev_var rfl) fun H2 e2 => ?_
      refine v_callM (ev_fld (ev_var rfl) (e2 _ _ oa) T.c_Hall T.n_Hall_wire (v := .ref xA) rfl) (e2 _ _ wo) wn (vs := [vn y.toNat]) (fun _ _ => ea_cons (ev_var rfl) ea_nil) fun H3 e3 => ?_
      have e23 := e2.trans e3
      refine ⟨xA, bA, d.which, y, X.2, d.keyboard, Li, rfl, wok, ln.ex e23, out.ex e23, fun H4 r L4 f4 hL4 ln4 hr => ?_⟩
      have sl := lineStep_len d.keyboard.size d.which X.2 y
      generalize hZ : lineStep d.keyboard.size d.which X.2 y = Z at rsn ln4 hr sl
      have g4 : H4 g = some (.lst (vns (gots X.1))) := f4 _ _ (e23 _ _ hG) gL
      have lX : (vns (gots X.1)).length = 4 * X.1.length := by rw [vns_length]; exact flat4 _ gotNums_len _
      have lZ : (vns (gots Z.1)).length = 4 * Z.1.length := by rw [vns_length]; exact flat4 _ gotNums_len _
      have bi : (b.take i).length ≤ 19000 := by rw [List.length_take]; omega
      refine ⟨g, r, vns (gots X.1), vns (gots Z.1), rfl, rfl, g4, hr, ?_, ?_⟩
      · rw [lX, lZ]
        show _ ≤ 2 ^ 24
        omega
      have gL4 : g ∉ L4 := fun z => by
        rcases hL4 g z with m | m
        · exact gL m
        · rw [e23 _ _ hG] at m
          cases m
      refine ⟨some (vn y.toNat), L4, rfl, ?_, fun z hz => ?_, ?_, ?_, gL4⟩
      · intro c o hc nc
        rw [upd_ne]
        · refine f4 _ _ (e23 _ _ (f _ _ hc nc)) fun z => ?_
          rcases hLi c z with m | m
          · exact nc m
          · rw [hc] at m
            cases m
        · rintro rfl
          rw [hg] at hc
          cases hc
      · rcases hL4 z hz with m | m
        · exact hLi z m
        · by_cases zL : z ∈ L
          · exact Or.inl zL
          · exact Or.inr (f.free (fresh_back e23 m) zL)
      · rw [rsn]
        exact ln4.fr (T := [g]) (Fr.upd (by simp)) fun z hz c => by
          rw [List.mem_singleton] at c
          subst c
          exact gL4 hz
      · rw [rsn]
        refine upd_same.trans ?_
        show some (HO.lst _) = some (.lst (vns ((X.1 ++ Z.1).flatMap KeysCalls.gotNums)))
        rw [List.flatMap_append, vns_append]
        rfl
    · rintro σ' H' ⟨v3, Li, rfl, f, hLi, ln, hG, gL⟩
      have tl : (vns (tN b)).length = b.length := by rw [vns_length, tN_length]
      rw [tl, List.take_length] at ln hG
      have rl := receive_len d.keyboard.size d.which b d.line
      have st : onDesk d (.take b) = ({ d with line := (CdKeys.receive d.keyboard.size d.which d.line b).2 }, tells [.l (gots (CdKeys.receive d.keyboard.size d.which d.line b).1)]) := by
        show (if BYTES < b.length then _ else _) = _
        rw [if_neg (by
          show ¬ 65536 < b.length
          omega)]
        rfl
      rw [st] at k
      generalize CdKeys.receive d.keyboard.size d.which d.line b = X at ln hG rl k
      have lX : (gots X.1).length = 4 * X.1.length := flat4 _ gotNums_len _
      refine s_retL (xs := [vn 0] ++ vns (cntd (gots X.1))) (el_cat (el_lst (ea_cons ev_n ea_nil) few) (el_call (ea_cons (ev_var rfl) ea_nil) (spL_is fun H'' e'' => ⟨g, vns (gots X.1), rfl, e'' _ _ hG, by rw [vns_length]; omega, (cnt_vns _).symm⟩)) ?_) fun r H2 hr e2 h2 => ?_
      · rw [vns_length]
        show 1 + ((gots X.1).length + 1) ≤ 100000
        omega
      · refine k H2 r ((a :: nA :: sA :: mA :: wA :: lA :: dA :: bs) ++ Li) ?_ (fun z hz => ?_) (HallAt.ex e2 ⟨dx, bA, nA, bdx, lA, dA, bs, ndx, uA, wA, sA, sdx, mA, as, xA, Li, rewired h f ln hLi⟩) (by rw [ansV_list]; exact h2)
        · exact ((f.mono fun z hz => by rw [h.own]; exact List.mem_append_right _ hz).trans (Fr.of e2))
        · rw [h.own]
          rcases List.mem_append.mp hz with m | m
          · exact Or.inl (List.mem_append_left _ m)
          · rcases hLi z m with c | c
            · exact Or.inl (List.mem_append_right _ c)
            · exact Or.inr c
  · have wob : ∀ H' l' L', LineAt CPlainLine CNumberedLine H' xA d.which l' bA L' → ∃ dx fs, H' xA = some (.ins CNumberedLine dx fs) ∧ fs.lookup ("receive" : Str) = none := fun H' l' L' ln => by
      obtain ⟨n, hn⟩ : ∃ n, d.which = n + 1 := ⟨d.which - 1, by omega⟩
      rw [hn] at ln
      obtain ⟨dx, start, q, _⟩ := ln
      rcases q with ⟨_, _, _, q⟩ | ⟨_, _, _, _, _, q, _⟩
      · exact ⟨dx, _, q, rfl⟩
      · exact ⟨dx, _, q, rfl⟩
    have wok : d.which ≠ 0 := wz
    refine ⟨_,
    (pss_cons (ps_set (i := 2) scHallTake.nd rfl (Or.inl rfl) (pe_lst pa_nil))
      (pss_cons (ps_for PassesOwn.never rfl (pi_list (pv 1)) (pg_name (i := 3) scHallTake.nd rfl (Or.inl rfl)) (pss_one (ps_expr (pe_bm PySem.F.plainAttrs_list PySem.F.slot_list_extend PySem.F.type_list_extend mt_extend (pv 2) (pa_cons (pe_ownM G_NumberedLine_receive T.c_NumberedLine hr (pe_fld (pv 0) rfl) (pa_cons (pv 3) pa_nil)) pa_nil)))))
      (pss_one (ps_ret (pe_op op_cat (pe_lst (pa_cons pe_n pa_nil)) (pe_own G_counted hr (pa_cons (pv 2) pa_nil)))))))
    , ?_⟩
    -- told = []
    refine q_asgL (el_lst ea_nil few) fun g H1 hg e1 h1 => ?_
    refine q_forLn (j := 3) (ev_var rfl) (sq_of (e1 _ _ hT)) (fun i σ' H' => ∃ (v3 : Option V) (Li : List Addr), σ' = [some (.ref a), some (.ref tA), some (.ref g), v3] ∧ Fr L H H' ∧ (∀ z ∈ Li, z ∈ L ∨ H z = none) ∧ LineAt CPlainLine CNumberedLine H' xA d.which (CdKeys.receive d.keyboard.size d.which d.line (b.take i)).2 bA Li ∧
        H' g = some (.lst (vns (gots (CdKeys.receive d.keyboard.size d.which d.line (b.take i)).1))) ∧ g ∉ Li)
      (fun H2 e2 => ⟨none, L, rfl, Fr.of (e1.trans e2), fun z hz => Or.inl hz, h.ln.ex (e1.trans e2), e2 _ _ h1, fun z => h.ln.known g z hg⟩)
      (fun i σ' H' _ ⟨_, _, _, f, _⟩ => sq_of (f _ _ hT tL)) ?_ ?_
    · rintro i x σ' H' hi ⟨v3, Li, rfl, f, hLi, ln, hG, gL⟩
      obtain ⟨y, hy, rfl⟩ := tN_get hi
      have i1 := (List.getElem?_eq_some_iff.mp hy).1
      have rsn := receive_snoc d.keyboard.size d.which (b.take i) y d.line
      rw [← take_more hy] at rsn
      have rl := receive_len d.keyboard.size d.which (b.take i) d.line
      generalize CdKeys.receive d.keyboard.size d.which d.line (b.take i) = X at ln hG rsn rl
      obtain ⟨wdx, wfs, wo, wn⟩ := wob _ _ _ ln
      have out : BdOut CBoard H' bA d.keyboard Li := by
        have q := h.bd.fr f (fun z => h.dj _ z (by simp)) (fun z => h.dj _ z (by simp)) (fun z => h.dj _ z (by simp)) (fun c hc z => h.dj _ z (by simp [hc]))
        refine ⟨bdx, lA, dA, bs, q, fun z hz c => ?_⟩
        rcases hLi z hz with m | m
        · refine h.dj z m ?_
          simp only [List.mem_cons] at c ⊢
          rcases c with c | c | c | c <;> simp [c]
        · simp only [List.mem_cons] at c
          rcases c with c | c | c | c
          · rw [c, h.bd.ob] at m
            cases m
          · rw [c, h.bd.ls] at m
            cases m
          · rw [c, h.bd.ds] at m
            cases m
          · obtain ⟨xs, q2⟩ := rows_lst h.bd.rows c
            rw [m] at q2
            cases q2
      have oa : H' a = some (.ins CHall dx (hF (.ref bA) (.ref nA) d.now (.ref xA))) := f _ _ h.ob (fun z => h.dj _ z (by simp))
      refine s_extendW hG (ev_var rfl) fun H2 e2 => ?_
      refine v_callM (ev_fld (ev_var rfl) (e2 _ _ oa) T.c_Hall T.n_Hall_wire (v := .ref xA) rfl) (e2 _ _ wo) wn (vs := [vn y.toNat]) (fun _ _ => ea_cons (ev_var rfl) ea_nil) fun H3 e3 => ?_
      have e23 := e2.trans e3
      refine ⟨xA, bA, d.which, y, X.2, d.keyboard, Li, rfl, wok, ln.ex e23, out.ex e23, fun H4 r L4 f4 hL4 ln4 hr => ?_⟩
      have sl := lineStep_len d.keyboard.size d.which X.2 y
      generalize hZ : lineStep d.keyboard.size d.which X.2 y = Z at rsn ln4 hr sl
      have g4 : H4 g = some (.lst (vns (gots X.1))) := f4 _ _ (e23 _ _ hG) gL
      have lX : (vns (gots X.1)).length = 4 * X.1.length := by rw [vns_length]; exact flat4 _ gotNums_len _
      have lZ : (vns (gots Z.1)).length = 4 * Z.1.length := by rw [vns_length]; exact flat4 _ gotNums_len _
      have bi : (b.take i).length ≤ 19000 := by rw [List.length_take]; omega
      refine ⟨g, r, vns (gots X.1), vns (gots Z.1), rfl, rfl, g4, hr, ?_, ?_⟩
      · rw [lX, lZ]
        show _ ≤ 2 ^ 24
        omega
      have gL4 : g ∉ L4 := fun z => by
        rcases hL4 g z with m | m
        · exact gL m
        · rw [e23 _ _ hG] at m
          cases m
      refine ⟨some (vn y.toNat), L4, rfl, ?_, fun z hz => ?_, ?_, ?_, gL4⟩
      · intro c o hc nc
        rw [upd_ne]
        · refine f4 _ _ (e23 _ _ (f _ _ hc nc)) fun z => ?_
          rcases hLi c z with m | m
          · exact nc m
          · rw [hc] at m
            cases m
        · rintro rfl
          rw [hg] at hc
          cases hc
      · rcases hL4 z hz with m | m
        · exact hLi z m
        · by_cases zL : z ∈ L
          · exact Or.inl zL
          · exact Or.inr (f.free (fresh_back e23 m) zL)
      · rw [rsn]
        exact ln4.fr (T := [g]) (Fr.upd (by simp)) fun z hz c => by
          rw [List.mem_singleton] at c
          subst c
          exact gL4 hz
      · rw [rsn]
        refine upd_same.trans ?_
        show some (HO.lst _) = some (.lst (vns ((X.1 ++ Z.1).flatMap KeysCalls.gotNums)))
        rw [List.flatMap_append, vns_append]
        rfl
    · rintro σ' H' ⟨v3, Li, rfl, f, hLi, ln, hG, gL⟩
      have tl : (vns (tN b)).length = b.length := by rw [vns_length, tN_length]
      rw [tl, List.take_length] at ln hG
      have rl := receive_len d.keyboard.size d.which b d.line
      have st : onDesk d (.take b) = ({ d with line := (CdKeys.receive d.keyboard.size d.which d.line b).2 }, tells [.l (gots (CdKeys.receive d.keyboard.size d.which d.line b).1)]) := by
        show (if BYTES < b.length then _ else _) = _
        rw [if_neg (by
          show ¬ 65536 < b.length
          omega)]
        rfl
      rw [st] at k
      generalize CdKeys.receive d.keyboard.size d.which d.line b = X at ln hG rl k
      have lX : (gots X.1).length = 4 * X.1.length := flat4 _ gotNums_len _
      refine s_retL (xs := [vn 0] ++ vns (cntd (gots X.1))) (el_cat (el_lst (ea_cons ev_n ea_nil) few) (el_call (ea_cons (ev_var rfl) ea_nil) (spL_is fun H'' e'' => ⟨g, vns (gots X.1), rfl, e'' _ _ hG, by rw [vns_length]; omega, (cnt_vns _).symm⟩)) ?_) fun r H2 hr e2 h2 => ?_
      · rw [vns_length]
        show 1 + ((gots X.1).length + 1) ≤ 100000
        omega
      · refine k H2 r ((a :: nA :: sA :: mA :: wA :: lA :: dA :: bs) ++ Li) ?_ (fun z hz => ?_) (HallAt.ex e2 ⟨dx, bA, nA, bdx, lA, dA, bs, ndx, uA, wA, sA, sdx, mA, as, xA, Li, rewired h f ln hLi⟩) (by rw [ansV_list]; exact h2)
        · exact ((f.mono fun z hz => by rw [h.own]; exact List.mem_append_right _ hz).trans (Fr.of e2))
        · rw [h.own]
          rcases List.mem_append.mp hz with m | m
          · exact Or.inl (List.mem_append_left _ m)
          · rcases hLi z m with c | c
            · exact Or.inl (List.mem_append_right _ c)
            · exact Or.inr c
end
end Kx

-- KCalls
/-! merge, send, frame: what the calls are answered. -/
namespace Kx
open PySem PySem.Spec PyProof.Rows L2 Evl KeysCalls
section
variable {P : Program} {w : World} {K : PySem.W.Frag} {mg : Str → Option Value} {base : Heap} {CBoard CNumberedLine CStrokes CNews CPart CPlainLine CHall : Addr}
/-! ### merge -/
def spMerge (K : PySem.W.Frag) : Sp := fun vs H Q _ => ∃ (a b : Addr) (x y : List Nat) (s : State), vs = [.ref a, .ref b] ∧ SqL K H a (vns x) ∧ SqL K H b (vns y) ∧ x.length ≤ 19000 ∧ y.length ≤ 19000 ∧ RetL (ansV (KeysCalls.step s (.merge x y)).2) H Q
theorem scMerge : FnScope ["first", "second"] ["first", "second"] (defScope tMerge) := ⟨rfl, rfl, rfl, by decide +kernel, rfl, by decide +kernel, by decide +kernel⟩
theorem ok_merge {f f1 f2 f3 : Addr} {fd fd1 fd2 fd3 : FuncData} (D : Raw K mg "merge" tMerge f fd) (T : Tx K mg CBoard CNumberedLine CStrokes CNews CPart CPlainLine CHall)
    (G_in_order : Ok P w K mg base 1 "in_order" ["events", "earliest"] (spInOrder K) f1 fd1) (G_merged : Ok P w K mg base 1 "merged" ["first", "second"] (spMerged K) f2 fd2) (G_counted : Ok P w K mg base 1 "counted" ["row"] spCounted f3 fd3) :
    Ok P w K mg base 2 "merge" ["first", "second"] (spMerge K) f fd := by
  refine ⟨D.fn.ok scMerge (fun vs H Q E h => ?_) (fun cdv A outer s H vs Q E hr h => ⟨_,
    (pss_cons (ps_if (PW.pt (pw_or (pt_not (pt_val (pe_own G_in_order hr (pa_cons (pv 0) (pa_cons pe_n pa_nil))))) (pw_or1 (pt_not (pt_val (pe_own G_in_order hr (pa_cons (pv 1) (pa_cons pe_n pa_nil)))))))) (pss_one (ps_ret (pe_lst (pa_cons (pe_un un_neg pe_n) pa_nil)))) pss_nil)
      (pss_one (ps_ret (pe_op op_cat (pe_lst (pa_cons pe_n pa_nil)) (pe_own G_counted hr (pa_cons (pe_own G_merged hr (pa_cons (pv 0) (pa_cons (pv 1) pa_nil))) pa_nil)))))), ?_⟩), D.at_, D.fn.kp, D.fn.binds fun _ _ _ _ _ _ us hl => match us, hl with | [_, _], _ => rfl⟩
  · obtain ⟨a, b, x, y, s, rfl, _⟩ := h
    rfl
  · obtain ⟨a, b, x, y, s, rfl, hA, hB, la, lb, k⟩ := h
    refine q_when (et_or (et_not (et_B (b := inOrd x 0) (ev_call (ea_cons (ev_var rfl) (ea_cons ev_n ea_nil)) (spV_is fun H' e' => ⟨a, x, 0, rfl, ex_l e' hA, by omega, rfl⟩)))) fun _ => et_not (et_B (b := inOrd y 0) (ev_call (ea_cons (ev_var rfl) (ea_cons ev_n ea_nil)) (spV_is fun H' e' => ⟨b, y, 0, rfl, ex_l e' hB, by omega, rfl⟩)))) (fun b1 H1 e1 => ?_) (fun b1 H1 e1 => ?_)
    · have bad : inOrd x 0 = false ∨ inOrd y 0 = false := by
        rw [Bool.or_eq_true, Bool.not_eq_true', Bool.not_eq_true'] at b1
        exact b1
      rw [merge_bad1 bad s] at k
      refine s_retL el_neg1 fun r H2 hr e2 h2 => ?_
      exact k r H2 (fresh_back e1 hr) (e1.trans e2) h2
    · rw [Bool.or_eq_false_iff, Bool.not_eq_false', Bool.not_eq_false'] at b1
      obtain ⟨p, q, hp, hq, st⟩ := merge_ok b1.1 b1.2 la lb s
      rw [st] at k
      have ep : evNs p = x := event_nums hp
      have eq : evNs q = y := event_nums hq
      have ml := merged_lenE _ p q (Nat.le_refl _)
      have l1 := evNs_length p
      have l2 := evNs_length q
      have l3 := evNs_length (CdKeys.merged p q)
      rw [ep] at l1
      rw [eq] at l2
      refine s_retL (xs := [vn 0] ++ vns (cntd (evNs (CdKeys.merged p q)))) (el_cat (el_lst (ea_cons ev_n ea_nil) few) (el_callL1 (xs := vns (evNs (CdKeys.merged p q))) (el_call (ea_cons (ev_var rfl) (ea_cons (ev_var rfl) ea_nil)) (spL_is fun H' e' => ⟨a, b, p, q, rfl, by rw [ep]; exact ex_l (e1.trans e') hA, by rw [eq]; exact ex_l (e1.trans e') hB, by rw [ep]; exact la, by rw [eq]; exact lb, rfl⟩)) fun r H2 e2 h2 => spL_is fun H' e' => ⟨r, _, rfl, e' _ _ h2, by rw [vns_length]; omega, (cnt_vns _).symm⟩) ?_) fun r H2 hr e2 h2 => ?_
      · rw [vns_length]
        show 1 + ((evNs (CdKeys.merged p q)).length + 1) ≤ 100000
        omega
      · refine k r H2 (fresh_back e1 hr) (e1.trans e2) ?_
        show H2 r = some (.lst (ansV (tells [.l _])))
        rw [ansV_list]
        exact h2

/-! ### send -/
theorem chordOk_is (c : Nat) : Cd.chordOk c = (decide (1 ≤ c) && decide (c < 2 ^ 48)) := rfl
theorem not_is {b : Bool} (h : (!b) = true) : b = false := by
  cases b with
  | true => cases h
  | false => rfl
theorem is_of {b : Bool} (h : (!b) = false) : b = true := by
  cases b with
  | true => rfl
  | false => cases h
def spSend : Sp := fun vs H Q _ => ∃ (c : Nat) (s : State), vs = [vn c] ∧ RetL (ansV (KeysCalls.step s (.send c)).2) H Q
theorem scSend : FnScope ["chord"] ["chord"] (defScope tSend) := ⟨rfl, rfl, rfl, by decide +kernel, rfl, by decide +kernel, by decide +kernel⟩
theorem ok_send {f f1 f2 f3 : Addr} {fd fd1 fd2 fd3 : FuncData} (D : Raw K mg "send" tSend f fd) (T : Tx K mg CBoard CNumberedLine CStrokes CNews CPart CPlainLine CHall)
    (G_is_chord : Ok P w K mg base 1 "is_chord" ["number", "size"] spIsChord f1 fd1) (G_packet_of : Ok P w K mg base 2 "packet_of" ["chord"] spPacketOf f2 fd2) (G_counted : Ok P w K mg base 1 "counted" ["row"] spCounted f3 fd3) :
    Ok P w K mg base 3 "send" ["chord"] spSend f fd := by
  refine ⟨D.fn.ok scSend (fun vs H Q E h => ?_) (fun cdv A outer s H vs Q E hr h => ⟨_,
    (pss_cons (ps_if (pt_not (pt_val (pe_own G_is_chord hr (pa_cons (pv 0) (pa_cons (pe_gi T.g_MOST_KEYS) pa_nil))))) (pss_one (ps_ret (pe_lst (pa_cons (pe_un un_neg pe_n) pa_nil)))) pss_nil)
      (pss_one (ps_ret (pe_op op_cat (pe_lst (pa_cons pe_n pa_nil)) (pe_own G_counted hr (pa_cons (pe_own G_packet_of hr (pa_cons (pv 0) pa_nil)) pa_nil)))))), ?_⟩), D.at_, D.fn.kp, D.fn.binds fun _ _ _ _ _ _ us hl => match us, hl with | [_], _ => rfl⟩
  · obtain ⟨c, s, rfl, _⟩ := h
    rfl
  · obtain ⟨c, s, rfl, k⟩ := h
    have st : KeysCalls.step s (.send c) = (s, if Cd.chordOk c = true then tells [.t (CdKeys.packet c)] else BAD) := rfl
    rw [st] at k
    refine q_when (et_not (et_B (b := Cd.chordOk c) (ev_call (ea_cons (ev_var rfl) (ea_cons ev_c ea_nil)) (spV_is fun H' e' => ⟨c, 48, rfl, by decide, rfl⟩)))) (fun b1 H1 e1 => ?_) (fun b1 H1 e1 => ?_)
    · rw [not_is b1] at k
      refine s_retL el_neg1 fun r H2 hr e2 h2 => ?_
      exact k r H2 (fresh_back e1 hr) (e1.trans e2) h2
    · have y := is_of b1
      rw [y] at k
      have c48 : c < 2 ^ 48 := by
        rw [chordOk_is, Bool.and_eq_true, decide_eq_true_eq, decide_eq_true_eq] at y
        exact y.2
      have lp : (tN (CdKeys.packet c)).length = 7 := by rw [packet_tN c48]; rfl
      refine s_retL (xs := [vn 0] ++ vns (cntd (tN (CdKeys.packet c)))) (el_cat (el_lst (ea_cons ev_n ea_nil) few) (el_callL1 (xs := vns (tN (CdKeys.packet c))) (el_call (ea_cons (ev_var rfl) ea_nil) (spL_is fun H' e' => ⟨c, rfl, c48, rfl⟩)) fun r H2 e2 h2 => spL_is fun H' e' => ⟨r, _, rfl, e' _ _ h2, by rw [vns_length]; omega, (cnt_vns _).symm⟩) ?_) fun r H2 hr e2 h2 => ?_
      · rw [vns_length]
        show 1 + ((tN (CdKeys.packet c)).length + 1) ≤ 100000
        omega
      · refine k r H2 (fresh_back e1 hr) (e1.trans e2) ?_
        show H2 r = some (.lst (ansV (tells [.t _])))
        rw [ansV_bytes]
        exact h2

/-! ### frame -/
theorem turned_tN (y : UInt8) : tN (CdKeys.turned y) = if resN y.toNat = true then [16, y.toNat ^^^ 32] else [y.toNat] := by
  have e : resN y.toNat = true ↔ (y = 2 ∨ y = 3 ∨ y = 16) := by
    unfold resN
    rw [decide_eq_true_eq, ← UInt8.toNat_inj, ← UInt8.toNat_inj, ← UInt8.toNat_inj]
    exact Iff.rfl
  unfold CdKeys.turned
  by_cases h : y = 2 ∨ y = 3 ∨ y = 16
  · rw [if_pos h, if_pos (e.mpr h)]
    show [16, (y ^^^ 32).toNat] = _
    rw [UInt8.toNat_xor]
    rfl
  · rw [if_neg h, if_neg (fun z => h (e.mp z))]
    rfl
theorem frame_tN (n t c : Nat) : tN (CdKeys.frame n t c) = (2 :: tN ((CdKeys.body n t c).flatMap CdKeys.turned)) ++ [3] := by
  show 2 :: tN ((CdKeys.body n t c).flatMap CdKeys.turned ++ [3]) = _
  rw [tN_append]
  rfl
def spFrame : Sp := fun vs H Q _ => ∃ (n t c : Nat) (s : State), vs = [vn n, vn t, vn c] ∧ RetL (ansV (KeysCalls.step s (.frame n t c)).2) H Q
theorem scFrame : FnScope ["number", "ticks", "chord", "row", "byte"] ["number", "ticks", "chord"] (defScope tFrame) := ⟨rfl, rfl, rfl, by decide +kernel, rfl, by decide +kernel, by decide +kernel⟩
theorem ok_frame {f f1 f2 f3 f4 : Addr} {fd fd1 fd2 fd3 fd4 : FuncData} (D : Raw K mg "frame" tFrame f fd) (T : Tx K mg CBoard CNumberedLine CStrokes CNews CPart CPlainLine CHall)
    (G_is_chord : Ok P w K mg base 1 "is_chord" ["number", "size"] spIsChord f1 fd1) (G_body_of : Ok P w K mg base 2 "body_of" ["number", "ticks", "chord"] spBodyOf f2 fd2) (G_is_reserved : Ok P w K mg base 1 "is_reserved" ["byte"] spIsReserved f3 fd3) (G_counted : Ok P w K mg base 1 "counted" ["row"] spCounted f4 fd4) :
    Ok P w K mg base 3 "frame" ["number", "ticks", "chord"] spFrame f fd := by
  refine ⟨D.fn.ok scFrame (fun vs H Q E h => ?_) (fun cdv A outer s H vs Q E hr h => ⟨_,
    (pss_cons (ps_if (PW.pt (pw_or (pt_cmpR on_ge (pv 0) (pe_gi T.g_NUMBERS_frames) (nomark _)) (pw_or (pt_cmpR on_ge (pv 1) (pe_gi T.g_TICKS_END_frames) (nomark _)) (pw_or1 (pt_not (pt_val (pe_own G_is_chord hr (pa_cons (pv 2) (pa_cons (pe_gi T.g_MOST_KEYS) pa_nil))))))))) (pss_one (ps_ret (pe_lst (pa_cons (pe_un un_neg pe_n) pa_nil)))) pss_nil)
      (pss_cons (ps_set (i := 3) scFrame.nd rfl (Or.inl rfl) (pe_lst (pa_cons (pe_gi T.g_OPENING) pa_nil)))
      (pss_cons (ps_for PassesOwn.never rfl (pi_list (pe_own G_body_of hr (pa_cons (pv 0) (pa_cons (pv 1) (pa_cons (pv 2) pa_nil))))) (pg_name (i := 4) scFrame.nd rfl (Or.inl rfl)) (pss_one (ps_if (pt_val (pe_own G_is_reserved hr (pa_cons (pv 4) pa_nil))) (pss_one (ps_expr (pe_bm PySem.F.plainAttrs_list PySem.F.slot_list_extend PySem.F.type_list_extend mt_extend (pv 3) (pa_cons (pe_lst (pa_cons (pe_gi T.g_ESCAPE) (pa_cons (pe_op on_xor (pv 4) (pe_gi T.g_TURNED_BIT)) pa_nil))) pa_nil)))) (pss_one (ps_expr (pe_bm PySem.F.plainAttrs_list PySem.F.slot_list_append PySem.F.type_list_append mt_append (pv 3) (pa_cons (pv 4) pa_nil)))))))
      (pss_one (ps_ret (pe_op op_cat (pe_lst (pa_cons pe_n pa_nil)) (pe_own G_counted hr (pa_cons (pe_op op_cat (pv 3) (pe_lst (pa_cons (pe_gi T.g_CLOSING) pa_nil))) pa_nil)))))))), ?_⟩), D.at_, D.fn.kp, D.fn.binds fun _ _ _ _ _ _ us hl => match us, hl with | [_, _, _], _ => rfl⟩
  · obtain ⟨n, t, c, s, rfl, _⟩ := h
    rfl
  · obtain ⟨n, t, c, s, rfl, k⟩ := h
    have st : KeysCalls.step s (.frame n t c) = (s, if 255 < n ∨ CdKeys.TICKS ≤ t ∨ Cd.chordOk c = false then BAD else tells [.t (CdKeys.frame n t c)]) := rfl
    rw [st] at k
    have TK : CdKeys.TICKS = 268435456 := rfl
    refine q_when (et_or (etN (g := fun n m => decide (m ≤ n)) (n := n) (m := 256) (ev_var rfl) ev_c trivial) fun _ => et_or (etN (g := fun n m => decide (m ≤ n)) (n := t) (m := 268435456) (ev_var rfl) ev_c trivial) fun _ => et_not (et_B (b := Cd.chordOk c) (ev_call (ea_cons (ev_var rfl) (ea_cons ev_c ea_nil)) (spV_is fun H' e' => ⟨c, 48, rfl, by decide, rfl⟩)))) (fun b1 H1 e1 => ?_) (fun b1 H1 e1 => ?_)
    · have bad : 255 < n ∨ CdKeys.TICKS ≤ t ∨ Cd.chordOk c = false := by
        rw [Bool.or_eq_true, Bool.or_eq_true, decide_eq_true_eq, decide_eq_true_eq] at b1
        rcases b1 with z | z | z
        · exact Or.inl (by have z' : 256 ≤ n := z; omega)
        · exact Or.inr (Or.inl (by rw [TK]; exact z))
        · exact Or.inr (Or.inr (not_is z))
      rw [if_pos bad] at k
      refine s_retL el_neg1 fun r H2 hr e2 h2 => ?_
      exact k r H2 (fresh_back e1 hr) (e1.trans e2) h2
    · rw [Bool.or_eq_false_iff, Bool.or_eq_false_iff, decide_eq_false_iff_not, decide_eq_false_iff_not] at b1
      have n256 : n < 256 := by have := b1.1; omega
      have t28 : t < 2 ^ 28 := by have := b1.2.1; omega
      rw [if_neg (by
        rintro (z | z | z)
        · omega
        · rw [TK] at z
          omega
        · rw [is_of b1.2.2] at z
          cases z)] at k
      have bl : (CdKeys.body n t c).length ≤ 13 := by
        have h1 := (body_tN (t := t) (c := c) n256).1
        have h2 := congrArg List.length h1
        have l1 := tbN_len 4 t
        have l2 := cbN_len c
        rw [tN_length, List.length_append, List.length_append, List.length_append] at h2
        have h2' : (CdKeys.body n t c).length = 1 + (tbN 4 t).length + (cbN c).length + 2 := h2
        omega
      have fl := frame_len n t c
      have ft := frame_tN n t c
      refine q_asgL (el_lst (ea_cons ev_c ea_nil) few) fun g H2 hg e2 h2 => ?_
      have e12 := e1.trans e2
      refine q_forNLn (j := 4) (xs := vns (tN (CdKeys.body n t c))) (el_call (ea_cons (ev_var rfl) (ea_cons (ev_var rfl) (ea_cons (ev_var rfl) ea_nil))) (spL_is fun H' e' => ⟨n, t, c, rfl, n256, t28, rfl⟩))
        (fun p i σ H' => ∃ v4 : Option V, σ = [some (vn n), some (vn t), some (vn c), some (.ref g), v4] ∧ Evl.Ex H H' ∧ H' p = some (.lst (vns (tN (CdKeys.body n t c)))) ∧ p ≠ g ∧ H' g = some (.lst (vns (2 :: tN (((CdKeys.body n t c).take i).flatMap CdKeys.turned)))))
        (fun p H3 hp e3 h3 => ⟨none, rfl, e12.trans e3, h3, (ne_of_none h2 hp).symm, e3 _ _ h2⟩) (fun p i σ H' _ ⟨_, _, _, hp, _, _⟩ => sq_of hp) ?_ ?_
      · rintro p i x σ H' hi ⟨v4, rfl, eH, hp, pg, hG⟩
        obtain ⟨y, hy, rfl⟩ := tN_get hi
        have more : tN (((CdKeys.body n t c).take (i + 1)).flatMap CdKeys.turned) = tN (((CdKeys.body n t c).take i).flatMap CdKeys.turned) ++ (if resN y.toNat = true then [16, y.toNat ^^^ 32] else [y.toNat]) := by
          rw [take_more hy, List.flatMap_append, tN_append, ← turned_tN]
          congr 1
          show tN (CdKeys.turned y ++ []) = _
          rw [List.append_nil]
        have ln : (tN (((CdKeys.body n t c).take i).flatMap CdKeys.turned)).length ≤ 26 := by
          rw [tN_length]
          have := turned_len ((CdKeys.body n t c).take i)
          rw [List.length_take] at this
          omega
        have gl : (vns (2 :: tN (((CdKeys.body n t c).take i).flatMap CdKeys.turned))).length ≤ 27 := by
          rw [vns_length, List.length_cons]
          omega
        refine s_if (et_B (b := resN y.toNat) (ev_call (ea_cons (ev_var rfl) ea_nil) (spV_is fun H' e' => ⟨_, rfl, rfl⟩))) (fun b2 H3 e3 => ?_) (fun b2 H3 e3 => ?_)
        · rw [if_pos b2] at more
          refine s_extL (e3 _ _ hG) (ev_var rfl) (el_lst (ea_cons ev_c (ea_cons (evN (n := y.toNat) (m := 32) (ev_var rfl) ev_c trivial) ea_nil)) few) (by
            show _ + 2 ≤ 100000
            omega) fun H4 e4 => ?_
          refine ⟨_, rfl, ?_, (upd_ne pg).trans ((e3.trans e4) _ _ hp), pg, ?_⟩
          · exact (eH.trans (e3.trans e4)).mut (fresh_back e1 hg)
          · rw [more]
            refine upd_same.trans ?_
            rw [← List.cons_append, vns_append]
            rfl
        · rw [if_neg (by rw [b2]; decide)] at more
          refine s_app (e3 _ _ hG) (ev_var rfl) (ev_var rfl) (by omega) fun H4 e4 => ?_
          refine ⟨_, rfl, ?_, (upd_ne pg).trans ((e3.trans e4) _ _ hp), pg, ?_⟩
          · exact (eH.trans (e3.trans e4)).mut (fresh_back e1 hg)
          · rw [more]
            refine upd_same.trans ?_
            rw [← List.cons_append, vns_append]
            rfl
      · rintro p σ H' ⟨v4, rfl, eH, hp, pg, hG⟩
        have tl : (vns (tN (CdKeys.body n t c))).length = (CdKeys.body n t c).length := by rw [vns_length, tN_length]
        rw [tl, List.take_length] at hG
        have lf : (tN (CdKeys.frame n t c)).length ≤ 28 := by rw [tN_length]; exact fl
        have lr : (2 :: tN ((CdKeys.body n t c).flatMap CdKeys.turned)).length + 1 ≤ 28 := by
          rw [ft, List.length_append] at lf
          exact lf
        refine s_retL (xs := [vn 0] ++ vns (cntd (tN (CdKeys.frame n t c)))) (el_cat (el_lst (ea_cons ev_n ea_nil) few) (el_callL1 (xs := vns (tN (CdKeys.frame n t c))) (by
          rw [ft, vns_append]
          exact el_catV (ys := [vn 3]) (ev_var rfl) hG (el_lst (ea_cons ev_c ea_nil) few) (by rw [vns_length]; show _ + 1 ≤ 100000; omega)) fun r H2 e2 h2 => spL_is fun H' e' => ⟨r, _, rfl, e' _ _ h2, by rw [vns_length]; omega, (cnt_vns _).symm⟩) ?_) fun r H3 hr e3 h3 => ?_
        · rw [vns_length]
          show 1 + ((tN (CdKeys.frame n t c)).length + 1) ≤ 100000
          omega
        · refine k r H3 (fresh_back eH hr) (eH.trans e3) ?_
          show H3 r = some (.lst (ansV (tells [.t _])))
          rw [ansV_bytes]
          exact h3
end
end Kx

-- XFlat2
/-! A call's numbers and the document's call. -/
namespace Kx
open KeysCalls

def CallIs (c : Nat) (singles : List Nat) (rows : List (List Nat)) (y : Call) : Prop :=
  (c = 0 ∧ ∃ x0 x1 x2 r0 r1, singles = [x0, x1, x2] ∧ rows = [r0, r1] ∧ y = .begin_ r0 r1 x0 x1 x2) ∨
  (c = 1 ∧ ∃ x0 x1 x2, singles = [x0, x1, x2] ∧ rows = [] ∧ y = .policy x0 x1 x2) ∨
  (c = 2 ∧ ∃ x0 r0, singles = [x0] ∧ rows = [r0] ∧ y = .feed r0 x0) ∨
  (c = 3 ∧ singles = [] ∧ rows = [] ∧ y = .held) ∨
  (c = 4 ∧ ∃ r0, singles = [] ∧ rows = [r0] ∧ y = .write r0) ∨
  (c = 5 ∧ ∃ b : Cd.Bytes, singles = [] ∧ rows = [b.map UInt8.toNat] ∧ y = .read b) ∨
  (c = 6 ∧ ∃ r0 r1, singles = [] ∧ rows = [r0, r1] ∧ y = .merge r0 r1) ∨
  (c = 7 ∧ ∃ x0, singles = [x0] ∧ rows = [] ∧ y = .send x0) ∨
  (c = 8 ∧ ∃ x0 x1 x2, singles = [x0, x1, x2] ∧ rows = [] ∧ y = .frame x0 x1 x2) ∨
  (c = 9 ∧ ∃ x0, singles = [x0] ∧ rows = [] ∧ y = .line x0) ∨
  (c = 10 ∧ ∃ b : Cd.Bytes, singles = [] ∧ rows = [b.map UInt8.toNat] ∧ y = .take b)
theorem len0 {α : Type} {l : List α} (h : l.length = 0) : l = [] := List.eq_nil_of_length_eq_zero h
theorem len1 {α : Type} : ∀ {l : List α}, l.length = 1 → ∃ a, l = [a]
  | [a], _ => ⟨a, rfl⟩
theorem len2 {α : Type} : ∀ {l : List α}, l.length = 2 → ∃ a b, l = [a, b]
  | [a, b], _ => ⟨a, b, rfl⟩
theorem len3 {α : Type} : ∀ {l : List α}, l.length = 3 → ∃ a b c, l = [a, b, c]
  | [a, b, c], _ => ⟨a, b, c, rfl⟩
theorem bytes_of {u : List Nat} (h : KeysNeutral.long (zns u) 70000 0 255 = true) : NeutralIO.bytes (zns u) = true ∧ ∃ b : Cd.Bytes, u = b.map UInt8.toNat ∧ KeysNeutral.bytes (zns u) = b := by
  unfold KeysNeutral.long at h
  rw [Bool.and_eq_true] at h
  have h2 := h.2
  refine ⟨h2, u.map UInt8.ofNat, ?_, ?_⟩
  · rw [List.map_map]
    have e : u.map id = u.map (UInt8.toNat ∘ UInt8.ofNat) := List.map_congr_left fun x hx => by
      rw [List.all_eq_true] at h2
      have := h2 (x : Int) (List.mem_map.mpr ⟨x, hx, rfl⟩)
      rw [Bool.and_eq_true, decide_eq_true_eq, decide_eq_true_eq] at this
      show x = (UInt8.ofNat x).toNat
      rw [UInt8.toNat_ofNat']
      omega
    rw [← e, List.map_id]
  · unfold KeysNeutral.bytes
    rw [nats_zns]
theorem call_is {c n k : Nat} {singles : List Nat} {rows : List (List Nat)} (hs : PyWrchka.shape (c : Int) = some (n, k)) (hn : singles.length = n) (hk : rows.length = k) (ha : KeysNeutral.asked1 (((c : Int) :: zns singles) :: rows.map zns) = true) :
    ∃ y, CallIs c singles rows y ∧ KeysNeutral.callOf (((c : Int) :: zns singles) :: rows.map zns) = some y ∧ callSz y ≤ (rows.map List.length).sum := by
  have nz := nats_zns
  rcases shape_of hs with h | h | h | h | h | h | h | h | h | h | h
  · obtain ⟨rfl, rfl, rfl⟩ := h
    obtain ⟨x0, x1, x2, rfl⟩ := len3 hn
    obtain ⟨r0, r1, rfl⟩ := len2 hk
    refine ⟨.begin_ r0 r1 x0 x1 x2, Or.inl ⟨rfl, _, _, _, _, _, rfl, rfl, rfl⟩, ?_, Nat.zero_le _⟩
    show some (Call.begin_ (KeysNeutral.nats (zns r0)) (KeysNeutral.nats (zns r1)) x0 x1 x2) = _
    rw [nz, nz]
  · obtain ⟨rfl, rfl, rfl⟩ := h
    obtain ⟨x0, x1, x2, rfl⟩ := len3 hn
    have := len0 hk
    subst this
    exact ⟨.policy x0 x1 x2, Or.inr (Or.inl ⟨rfl, _, _, _, rfl, rfl, rfl⟩), rfl, Nat.zero_le _⟩
  · obtain ⟨rfl, rfl, rfl⟩ := h
    obtain ⟨x0, rfl⟩ := len1 hn
    obtain ⟨r0, rfl⟩ := len1 hk
    refine ⟨.feed r0 x0, Or.inr (Or.inr (Or.inl ⟨rfl, _, _, rfl, rfl, rfl⟩)), ?_, ?_⟩
    · show some (Call.feed (KeysNeutral.nats (zns r0)) x0) = _
      rw [nz]
    · show r0.length ≤ r0.length + 0
      omega
  · obtain ⟨rfl, rfl, rfl⟩ := h
    have h1 := len0 hn
    have h2 := len0 hk
    subst h1
    subst h2
    exact ⟨.held, Or.inr (Or.inr (Or.inr (Or.inl ⟨rfl, rfl, rfl, rfl⟩))), rfl, Nat.zero_le _⟩
  · obtain ⟨rfl, rfl, rfl⟩ := h
    have h1 := len0 hn
    subst h1
    obtain ⟨r0, rfl⟩ := len1 hk
    refine ⟨.write r0, Or.inr (Or.inr (Or.inr (Or.inr (Or.inl ⟨rfl, _, rfl, rfl, rfl⟩)))), ?_, Nat.zero_le _⟩
    show some (Call.write (KeysNeutral.nats (zns r0))) = _
    rw [nz]
  · obtain ⟨rfl, rfl, rfl⟩ := h
    have h1 := len0 hn
    subst h1
    obtain ⟨r0, rfl⟩ := len1 hk
    obtain ⟨hb, b, hu, hby⟩ := bytes_of (u := r0) ha
    refine ⟨.read b, Or.inr (Or.inr (Or.inr (Or.inr (Or.inr (Or.inl ⟨rfl, b, rfl, by rw [hu], rfl⟩))))), ?_, Nat.zero_le _⟩
    show (if NeutralIO.bytes (zns r0) = true then some (Call.read (KeysNeutral.bytes (zns r0))) else none) = _
    rw [if_pos hb, hby]
  · obtain ⟨rfl, rfl, rfl⟩ := h
    have h1 := len0 hn
    subst h1
    obtain ⟨r0, r1, rfl⟩ := len2 hk
    refine ⟨.merge r0 r1, Or.inr (Or.inr (Or.inr (Or.inr (Or.inr (Or.inr (Or.inl ⟨rfl, _, _, rfl, rfl, rfl⟩)))))), ?_, ?_⟩
    · show some (Call.merge (KeysNeutral.nats (zns r0)) (KeysNeutral.nats (zns r1))) = _
      rw [nz, nz]
    · show r0.length + r1.length ≤ r0.length + (r1.length + 0)
      omega
  · obtain ⟨rfl, rfl, rfl⟩ := h
    obtain ⟨x0, rfl⟩ := len1 hn
    have h2 := len0 hk
    subst h2
    exact ⟨.send x0, Or.inr (Or.inr (Or.inr (Or.inr (Or.inr (Or.inr (Or.inr (Or.inl ⟨rfl, _, rfl, rfl, rfl⟩))))))), rfl, Nat.zero_le _⟩
  · obtain ⟨rfl, rfl, rfl⟩ := h
    obtain ⟨x0, x1, x2, rfl⟩ := len3 hn
    have h2 := len0 hk
    subst h2
    exact ⟨.frame x0 x1 x2, Or.inr (Or.inr (Or.inr (Or.inr (Or.inr (Or.inr (Or.inr (Or.inr (Or.inl ⟨rfl, _, _, _, rfl, rfl, rfl⟩)))))))), rfl, Nat.zero_le _⟩
  · obtain ⟨rfl, rfl, rfl⟩ := h
    obtain ⟨x0, rfl⟩ := len1 hn
    have h2 := len0 hk
    subst h2
    exact ⟨.line x0, Or.inr (Or.inr (Or.inr (Or.inr (Or.inr (Or.inr (Or.inr (Or.inr (Or.inr (Or.inl ⟨rfl, _, rfl, rfl, rfl⟩))))))))), rfl, Nat.zero_le _⟩
  · obtain ⟨rfl, rfl, rfl⟩ := h
    have h1 := len0 hn
    subst h1
    obtain ⟨r0, rfl⟩ := len1 hk
    obtain ⟨hb, b, hu, hby⟩ := bytes_of (u := r0) ha
    refine ⟨.take b, Or.inr (Or.inr (Or.inr (Or.inr (Or.inr (Or.inr (Or.inr (Or.inr (Or.inr (Or.inr ⟨rfl, b, rfl, by rw [hu], rfl⟩))))))))), ?_, ?_⟩
    · show (if NeutralIO.bytes (zns r0) = true then some (Call.take (KeysNeutral.bytes (zns r0))) else none) = _
      rw [if_pos hb, hby]
    · have e : r0.length = b.length := by rw [hu, List.length_map]
      show b.length ≤ r0.length + 0
      omega
end Kx

-- KAns
/-! answers: the loop over the calls. -/
namespace Kx
open PySem PySem.Spec PyProof.Rows L2 Evl KeysCalls

/-- the table of how many numbers and rows a call has -/
def ShapeTab (K : PySem.W.Frag) (sh : Addr) : Prop := ∃ ss : List Addr, (∀ H, SqT K H sh (refs ss)) ∧ ∀ c n k : Nat, PyWrchka.shape (c : Int) = some (n, k) → ∃ s, ss[c]? = some s ∧ ∀ H, SqT K H s [vn n, vn k]
def spAnswer (CH CB CN CS CP CM : Addr) : Sp := fun vs H Q _ => ∃ (hA sA rA : Addr) (c : Nat) (singles : List Nat) (rows : List (List Nat)) (as : List Addr) (y : Call) (s : State) (S : List Addr), vs = [.ref hA, vn c, .ref sA, .ref rA] ∧ HallAt CH CB CN CS CP CM H hA s S ∧
  H sA = some (.lst (vns singles)) ∧ H rA = some (.lst (refs as)) ∧ RowsAt H as rows ∧ (∀ b ∈ as, b ∉ S) ∧ CallIs c singles rows y ∧ (∀ r ∈ rows, r.length ≤ 19000) ∧ newsLen s ≤ 50000 ∧
  HallDoes CH CB CN CS CP CM H hA S (KeysCalls.step s y).1 (KeysCalls.step s y).2 Q
def spAnswers (K : PySem.W.Frag) : Sp := fun vs H Q _ => ∃ (a : Addr) (ns : List Nat), vs = [.ref a] ∧ SqL K H a (vns ns) ∧ ns.length ≤ 19000 ∧ PyWrchka.answers_asked (zns ns) = true ∧
  ∀ (H' : Hp) (p : Addr), Evl.Ex H H' → H' p = some (.lst ((PyWrchka.answers (zns ns)).map V.int)) → Q (.ref p) H'
theorem hall_kok {CH CB CN CS CP CM : Addr} {H : Hp} {a : Addr} {s : State} {S : List Addr} (h : HallAt CH CB CN CS CP CM H a s S) : ∀ d, s = some d → d.keyboard.ok = true := by
  rintro d rfl
  obtain ⟨dx, bA, nA, bdx, lA, dA, bs, ndx, uA, wA, sA, sdx, mA, as, xA, L, h⟩ := h
  exact h.ok.kok
theorem HallAt.known {CH CB CN CS CP CM : Addr} {H : Hp} {a : Addr} {s : State} {S : List Addr} (h : HallAt CH CB CN CS CP CM H a s S) : ∀ b ∈ S, H b ≠ none := by
  cases s with
  | none =>
    obtain ⟨rfl, dx, h⟩ := h
    intro b hb
    rw [List.mem_singleton] at hb
    subst hb
    rw [h]
    simp
  | some d =>
    obtain ⟨dx, bA, nA, bdx, lA, dA, bs, ndx, uA, wA, sA, sdx, mA, as, xA, L, h⟩ := h
    intro b hb
    rw [h.own] at hb
    rcases List.mem_append.mp hb with hb | hb
    · simp only [List.mem_cons] at hb
      rcases hb with rfl | rfl | rfl | rfl | rfl | rfl | rfl | hb
      · rw [h.ob]; simp
      · rw [h.nw.ob]; simp
      · rw [h.nw.st.ob]; simp
      · rw [h.nw.st.ls]; simp
      · rw [h.nw.ws.1]; simp
      · rw [h.bd.ls]; simp
      · rw [h.bd.ds]; simp
      · obtain ⟨xs, q⟩ := rows_lst h.bd.rows hb
        rw [q]
        simp
    · exact h.ln.known b hb
section
variable {K : PySem.W.Frag} {σ : L2.St} {H : Hp} {ta te t1 t2 t3 t4 : TE} {v1 v2 v4 : V} {xs : List V} {D : Ends} {g : Addr} {sp : Sp} {E : XK} {Q : VK}
theorem v_callArg (k : te σ H fun v H2 => sp [v] H2 Q E) : tCall sp [] E (tCons te tNil) σ H Q := k
theorem v_args4 (h1 : Ev t1 σ H v1) (h2 : Ev t2 σ H v2) (h3 : EvL t3 σ H xs) (h4 : Ev t4 σ H v4) (k : ∀ p H1, Evl.Ex H H1 → H1 p = some (.lst xs) → sp [v1, v2, .ref p, v4] H1 Q E) : tCall sp [] E (tCons t1 (tCons t2 (tCons t3 (tCons t4 tNil)))) σ H Q :=
  h1 H (Evl.Ex.refl H) _ fun H1 e1 => h2 H1 e1 _ fun H2 e2 => h3 H2 (e1.trans e2) _ fun p H3 _ e3 hp => h4 H3 ((e1.trans e2).trans e3) _ fun H4 e4 => k p H4 (((e1.trans e2).trans e3).trans e4) (e4 _ _ hp)
end
section
variable {P : Program} {w : World} {K : PySem.W.Frag} {mg : Str → Option Value} {base : Heap} {CBoard CNumberedLine CStrokes CNews CPart CPlainLine CHall : Addr}
theorem scAnswers : FnScope ["calls", "hall", "given", "place", "call", "singles", "count", "start", "rows"] ["calls"] (defScope tAnswers) := ⟨rfl, rfl, rfl, by decide +kernel, rfl, by decide +kernel, by decide +kernel⟩
theorem ok_answers {f sh f1 f2 f3 f4 : Addr} {fd fd1 fd2 fd3 fd4 : FuncData} (D : Raw K mg "answers" tAnswers f fd) (T : Tx K mg CBoard CNumberedLine CStrokes CNews CPart CPlainLine CHall) (G_shapes : mg "SHAPES" = some (.ref sh)) (tab : ShapeTab K sh)
    (G_Hall : OkC P w K mg base 1 "Hall" CHall ["self"] (spHallInit CHall CBoard CNews CStrokes CPlainLine CNumberedLine) f1 fd1) (G_rows_at : Ok P w K mg base 1 "rows_at" ["numbers", "place", "count"] (spRowsAt K) f2 fd2) (G_counted : Ok P w K mg base 1 "counted" ["row"] spCounted f3 fd3)
    (G_answer : Ok P w K mg base 8 "answer" ["hall", "call", "single", "rows"] (spAnswer CHall CBoard CNews CStrokes CPlainLine CNumberedLine) f4 fd4) :
    Ok P w K mg base 9 "answers" ["calls"] (spAnswers K) f fd := by
  refine ⟨D.fn.ok scAnswers (fun vs H Q E h => ?_) (fun cdv A outer s H vs Q E hr h => ⟨_,
    (pss_cons (ps_set (i := 1) scAnswers.nd rfl (Or.inl rfl) (pe_mkOwn0 G_Hall hr))
      (pss_cons (ps_set (i := 2) scAnswers.nd rfl (Or.inl rfl) (pe_lst pa_nil))
      (pss_cons (ps_set (i := 3) scAnswers.nd rfl (Or.inl rfl) pe_n)
      (pss_cons (ps_while PassesOwn.never (pt_cmpR on_lt (pv 3) (pe_callB call_len_seq (by rfl) T.b_len PySem.boot_len (pa_cons (pv 0) pa_nil)) (nomark _)) (pss_cons (ps_set (i := 4) scAnswers.nd rfl (Or.inl rfl) (pe_ix ix_list (pv 0) (pv 3) (fun _ _ => rfl)))
      (pss_cons (ps_asg (pe_ix ix_tup (pe_glob (v := .ref sh) rfl G_shapes rfl) (pv 4) (fun _ _ => rfl)) (pg_tup rfl (pgs_cons (pg_name (i := 5) scAnswers.nd rfl (Or.inl rfl)) (pgs_cons (pg_name (i := 6) scAnswers.nd rfl (Or.inl rfl)) pgs_nil))))
      (pss_cons (ps_set (i := 7) scAnswers.nd rfl (Or.inl rfl) (pe_op on_add (pv 3) pe_n))
      (pss_cons (ps_asg (pe_own G_rows_at hr (pa_cons (pv 0) (pa_cons (pe_op on_add (pv 7) (pv 5)) (pa_cons (pv 6) pa_nil)))) (pg_tup rfl (pgs_cons (pg_name (i := 8) scAnswers.nd rfl (Or.inl rfl)) (pgs_cons (pg_name (i := 3) scAnswers.nd rfl (Or.inl rfl)) pgs_nil))))
      (pss_one (ps_expr (pe_bm PySem.F.plainAttrs_list PySem.F.slot_list_extend PySem.F.type_list_extend mt_extend (pv 2) (pa_cons (pe_own G_counted hr (pa_cons (pe_own G_answer hr (pa_cons (pv 1) (pa_cons (pv 4) (pa_cons (pe_slice sl_list (pv 0) (po_some (pv 7)) (po_some (pe_op on_add (pv 7) (pv 5)))) (pa_cons (pv 8) pa_nil))))) pa_nil)) pa_nil)))))))))
      (pss_one (ps_ret (pv 2))))))), ?_⟩), D.at_, D.fn.kp, D.fn.binds fun _ _ _ _ _ _ us hl => match us, hl with | [_], _ => rfl⟩
  · obtain ⟨a, ns, rfl, _⟩ := h
    rfl
  · obtain ⟨a, ns, rfl, hS, hlen, hask, kQ⟩ := h
    -- the calls
    have hask' : ∃ cs, PyFlat.calls PyWrchka.shape (zns ns).length (zns ns) = some cs ∧ cs.length ≤ 300 ∧ ∀ c ∈ cs, KeysNeutral.asked1 c = true := by
      unfold PyWrchka.answers_asked at hask
      rw [calls_whole] at hask
      cases q : PyFlat.calls PyWrchka.shape (zns ns).length (zns ns) with
      | none =>
        rw [q] at hask
        cases hask
      | some cs =>
        rw [q] at hask
        have hask2 : (PyFlat.atMost 300 cs && (!cs.isEmpty && cs.all KeysNeutral.asked1)) = true := hask
        rw [Bool.and_eq_true, Bool.and_eq_true, List.all_eq_true] at hask2
        exact ⟨cs, rfl, of_decide_eq_true hask2.1, hask2.2.2⟩
    obtain ⟨cs0, hcs0, hn300, hall0⟩ := hask'
    have hres : PyWrchka.answers (zns ns) = PyFlat.told (PyFlat.played KeysNeutral.step KeysNeutral.start cs0) := by
      unfold PyWrchka.answers
      rw [calls_whole, hcs0]
    generalize PyWrchka.answers (zns ns) = RES at hres kQ
    -- hall = Hall()
    refine q_asgM (vs := []) ea_nil fun hA hdx H1 e1 hh hhd nh => ?_
    have bh := born_ex (C := CHall) hh hhd nh
    refine ⟨hA, hdx, rfl, born_at, fun H2 f2 hall2 => ⟨rfl, ?_⟩⟩
    have hH : H hA = none := fresh_back e1 hh
    have eH2 : Evl.Ex H H2 := fun b o q => f2 _ _ (bh _ _ (e1 _ _ q)) (by
      intro z
      rw [List.mem_singleton] at z
      subst z
      rw [hH] at q
      cases q)
    refine q_asgL (el_lst ea_nil few) fun gA H3 hg e3 h3 => ?_
    have gH : H gA = none := fresh_back eH2 hg
    have gh : gA ∉ [hA] := by
      rw [List.mem_singleton]
      rintro rfl
      obtain ⟨_, dx, _, _, _, _, q⟩ := hall2.ins
      rw [q] at hg
      cases hg
    refine q_asg ev_n fun H4 e4 => ?_
    refine q_while (fun m σ H' => ∃ (p : Nat) (v4 v5 v6 v7 v8 : Option V) (g : List Int) (s : State) (S : List Addr) (fu j : Nat) (cs : List (List (List Int))),
        σ = [some (.ref a), some (.ref hA), some (.ref gA), some (vn p), v4, v5, v6, v7, v8] ∧ Evl.Ex H H' ∧ HallAt CHall CBoard CNews CStrokes CPlainLine CNumberedLine H' hA s S ∧ (∀ b ∈ S, H b = none) ∧ gA ∉ S ∧ H' gA = some (.lst (g.map V.int)) ∧ p ≤ ns.length ∧
        PyFlat.calls PyWrchka.shape fu (zns (ns.drop p)) = some cs ∧ (∀ c ∈ cs, KeysNeutral.asked1 c = true) ∧ RES = g ++ PyFlat.told (PyFlat.played KeysNeutral.step s cs) ∧ j + cs.length ≤ 300 ∧ g.length ≤ j * 40704 + 4 * p ∧ 2 * newsLen s ≤ p ∧ m = ns.length - p) ns.length
      ⟨0, none, none, none, none, none, [], none, [hA], _, 0, cs0, rfl, (eH2.trans e3).trans e4, hall2.ex (e3.trans e4), fun b hb => (by
        rw [List.mem_singleton] at hb
        subst hb
        exact hH), gh, e4 _ _ h3, Nat.zero_le _, hcs0, hall0, hres, by omega, Nat.le_refl _, Nat.le_refl _, rfl⟩ ?_
    rintro m σ' H' ⟨p, v4, v5, v6, v7, v8, g, s, S, fu, j, cs, rfl, eH, hall, hSf, gS, hgA, hp, hcs, hask, hR, hj, hgl, hnl, rfl⟩
    refine ⟨decide (p < ns.length), etN (g := fun n m => decide (n < m)) (ev_var rfl) (ev_lenN' (ev_var rfl) (ex_l eH hS)) trivial, fun hb H5 e5 => ?_, fun hb H5 e5 => ?_⟩
    · have lt : p < ns.length := of_decide_eq_true hb
      obtain ⟨f', c, n, k, rows, q, cs', hc, hsh, hle, hrow, rfl, hcs'⟩ := calls_step hcs lt
      obtain ⟨hq1, hrl, hq2, hrr, hrs⟩ := rowsFrom_le hrow
      have hq2' := hq2 hle
      have sl : ((ns.drop (p + 1)).take n).length = n := by
        rw [List.length_take, List.length_drop]
        omega
      obtain ⟨y, hCall, hOf, hSz⟩ := call_is hsh sl hrl (hask _ List.mem_cons_self)
      obtain ⟨ss, hss, hst⟩ := tab
      obtain ⟨sa, hsa, hsaT⟩ := hst c n k hsh
      have k2 : k ≤ 2 := by
        rcases shape_of hsh with h | h | h | h | h | h | h | h | h | h | h <;> omega
      refine ⟨_, fun σ2 H2 h => h, ?_⟩
      have eH5 := eH.trans e5
      refine q_asg (ev_ixN (ev_var rfl) (ev_var rfl) (ex_l eH5 hS) hc) fun H6 e6 => ?_
      have rs : (refs ss)[c]? = some (.ref sa) := by
        unfold refs
        rw [List.getElem?_map, hsa]
        rfl
      refine q_unp2 (ev_op (x := .ref sh) (y := vn c) ev_c (ev_var rfl) (rv_ixT (hss _) (atI_at rs))) (hsaT _) fun H7 e7 => ?_
      refine q_asg (evN (ev_var rfl) ev_n trivial) fun H8 e8 => ?_
      have eH8 := ((eH5.trans e6).trans e7).trans e8
      refine q_callA (ea_cons (ev_var rfl) (ea_cons (evN (n := p + 1) (m := n) (ev_var rfl) (ev_var rfl) trivial) (ea_cons (ev_var rfl) ea_nil))) fun H9 e9 => ?_
      refine ⟨a, ns, p + 1 + n, k, q, rows, rfl, ex_l (eH8.trans e9) hS, k2, hrow, fun H10 t l as e10 ht hl hRow hfr => ?_⟩
      refine ⟨t, _, rfl, st_of ht, rfl, _, _, rfl, _, _, rfl, rfl, ?_⟩
      have e5_10 : Evl.Ex H' H10 := ((((e5.trans e6).trans e7).trans e8).trans e9).trans e10
      -- given.extend(counted(answer(..)))
      refine s_extendW (e5_10 _ _ hgA) (ev_var rfl) fun H11 e11 => v_callArg (v_args4 (v1 := .ref hA) (v2 := vn c) (v4 := .ref l) (ev_var rfl) (ev_var rfl) (el_part (l := ns) (i := p + 1) (j := p + 1 + n) (ev_var rfl) (ev_var rfl) (evN (n := p + 1) (m := n) (ev_var rfl) (ev_var rfl) trivial) (ex_l ((eH.trans e5_10).trans e11) hS)) (ev_var rfl) fun sA H15 e15 hsA => ?_)
      have e10_15 : Evl.Ex H10 H15 := e11.trans e15
      have eH15 : Evl.Ex H H15 := (eH.trans e5_10).trans e10_15
      have hall15 := hall.ex (e5_10.trans e10_15)
      have g15 : H15 gA = some (.lst (g.map V.int)) := (e5_10.trans e10_15) _ _ hgA
      rw [show p + 1 + n - (p + 1) = n by omega] at hsA
      refine ⟨hA, sA, l, c, (ns.drop (p + 1)).take n, rows, as, y, s, S, rfl, hall15, hsA, e10_15 _ _ hl, hRow.ex e10_15, (fun b hb hS' => (hall.ex ((((e5.trans e6).trans e7).trans e8).trans e9)).known b hS' (hfr b hb)), hCall, fun r hr => by have := (hrr r hr).1; omega, by omega, fun H16 r S' f16 hS' hall16 hr => ?_⟩
      have bnd := step_bnd s (hall_kok hall15) y
      have st := step_of hOf s
      generalize hx : KeysCalls.step s y = x at hall16 hr bnd st
      obtain ⟨b1, b2⟩ := bnd
      have al : (ansV x.2).length = toldLen x.2 + 1 := by
        unfold ansV toldLen
        rw [List.length_cons, List.length_map]
      have gS' : gA ∉ S' := fun z => by
        rcases hS' _ z with z | z
        · exact gS z
        · rw [g15] at z
          cases z
      have hnl' : 2 * newsLen x.1 ≤ q := by omega
      have tl : toldLen x.2 ≤ 40700 + 4 * (q - p) ∧ toldLen x.2 ≤ 89000 := by omega
      refine ⟨vn (ansV x.2).length :: ansV x.2, ⟨r, ansV x.2, rfl, hr, by omega, rfl⟩, fun pA H17 hpA e17 h17 => ?_⟩
      have g17 : H17 gA = some (.lst (g.map V.int)) := e17 _ _ (f16 _ _ g15 gS)
      have gl : (g.map V.int).length = g.length := List.length_map _
      have szz : (g.map V.int).length + (vn (ansV x.2).length :: ansV x.2).length ≤ sizeLine := by
        rw [gl, List.length_cons, al]
        show _ ≤ 2 ^ 24
        have : j * 40704 ≤ 300 * 40704 := Nat.mul_le_mul_right _ (by rw [List.length_cons] at hj; omega)
        omega
      refine ⟨gA, pA, g.map V.int, _, rfl, rfl, g17, h17, szz, ?_⟩
      have a2 : ansV x.2 = (x.2.code :: x.2.told.flatMap KeysNeutral.toldInts).map V.int := rfl
      refine ⟨ns.length - q, by omega, q, _, _, _, _, _, g ++ (((x.2.code :: x.2.told.flatMap KeysNeutral.toldInts).length : Int) :: (x.2.code :: x.2.told.flatMap KeysNeutral.toldInts)), x.1, S', f', j + 1, cs', rfl, ?_, ?_, ?_, gS', ?_, hq2', hcs', fun c hc => hask c (List.mem_cons_of_mem _ hc), ?_, ?_, ?_, hnl', rfl⟩
      · intro b o hb
        rw [upd_ne]
        · refine e17 _ _ (f16 _ _ (eH15 _ _ hb) fun z => ?_)
          rw [hSf b z] at hb
          cases hb
        · rintro rfl
          rw [gH] at hb
          cases hb
      · exact (hall16.ex e17).fr (T := [gA]) (Fr.upd (by simp)) fun t ht => by
          rw [List.mem_singleton] at ht
          subst ht
          exact ⟨gS', _, g17⟩
      · intro b hb
        rcases hS' b hb with z | z
        · exact hSf b z
        · exact fresh_back eH15 z
      · refine upd_same.trans ?_
        rw [a2, List.map_append, List.length_map]
        rfl
      · rw [hR]
        show g ++ PyFlat.told ((KeysNeutral.step s _).2 :: PyFlat.played KeysNeutral.step (KeysNeutral.step s _).1 cs') = _
        rw [st, List.append_assoc]
        rfl
      · rw [List.length_cons] at hj
        omega
      · rw [List.length_append, List.length_cons]
        have : (x.2.code :: x.2.told.flatMap KeysNeutral.toldInts).length = toldLen x.2 + 1 := rfl
        omega
    · have ge : ns.length ≤ p := by
        have := of_decide_eq_false hb
        omega
      have := calls_end hcs ge
      subst this
      have hR' : RES = g := by
        rw [hR]
        show g ++ [] = g
        rw [List.append_nil]
      refine s_ret (ev_var rfl) fun H6 e6 => ?_
      refine kQ H6 gA ((eH.trans e5).trans e6) ?_
      rw [hR']
      exact (e5.trans e6) _ _ hgA
end
end Kx

-- KAnswer
/-! answer, answer_begun: the choice among the calls. -/
namespace Kx
open PySem PySem.Spec PyProof.Rows L2 Evl KeysCalls

theorem HallDoes.ex {CH CB CN CS CP CM : Addr} {H H2 : Hp} {a : Addr} {S : List Addr} {s : State} {x : Answer} {Q : VK} (h : HallDoes CH CB CN CS CP CM H a S s x Q) (e : Evl.Ex H H2) : HallDoes CH CB CN CS CP CM H2 a S s x Q := fun H' r S' f n hh hr =>
  h H' r S' ((Fr.of e).trans f) (fun b hb => (n b hb).elim Or.inl fun z => Or.inr (fresh_back e z)) hh hr
theorem rows1 {H : Hp} : ∀ {as : List Addr} {r : List Nat}, RowsAt H as [r] → ∃ a, as = [a] ∧ H a = some (.lst (vns r))
  | [a], r, h => ⟨a, rfl, h.1⟩
  | [], _, h => h.elim
  | _ :: _ :: _, _, h => h.2.elim
theorem rows2 {H : Hp} : ∀ {as : List Addr} {r1 r2 : List Nat}, RowsAt H as [r1, r2] → ∃ a b, as = [a, b] ∧ H a = some (.lst (vns r1)) ∧ H b = some (.lst (vns r2))
  | [a, b], _, _, h => ⟨a, b, rfl, h.1, h.2.1⟩
  | [], _, _, h => h.elim
  | [_], _, _, h => h.2.elim
  | _ :: _ :: _ :: _, _, _, h => h.2.2.elim
section
variable {P : Program} {w : World} {K : PySem.W.Frag} {mg : Str → Option Value} {base : Heap} {CBoard CNumberedLine CStrokes CNews CPart CPlainLine CHall : Addr}
def spBegun (CH CB CN CS CP CM : Addr) : Sp := fun vs H Q _ => ∃ (hA sA rA : Addr) (c : Nat) (singles : List Nat) (rows : List (List Nat)) (as : List Addr) (y : Call) (d : Desk) (S : List Addr), vs = [.ref hA, vn c, .ref sA, .ref rA] ∧ HallAt CH CB CN CS CP CM H hA (some d) S ∧
  H sA = some (.lst (vns singles)) ∧ H rA = some (.lst (refs as)) ∧ RowsAt H as rows ∧ (∀ b ∈ as, b ∉ S) ∧ CallIs c singles rows y ∧ (∀ r ∈ rows, r.length ≤ 19000) ∧ d.news.length ≤ 50000 ∧ (c ≠ 0 ∧ c ≠ 6 ∧ c ≠ 7 ∧ c ≠ 8) ∧
  HallDoes CH CB CN CS CP CM H hA S (some (onDesk d y).1) (onDesk d y).2 Q
theorem scAnswerBegun : FnScope ["hall", "call", "single", "rows"] ["hall", "call", "single", "rows"] (defScope tAnswerBegun) := ⟨rfl, rfl, rfl, by decide +kernel, rfl, by decide +kernel, by decide +kernel⟩
theorem ok_answer_begun {f f2 f3 f4 f5 f6 f7 f8 : Addr} {fd fd2 fd3 fd4 fd5 fd6 fd7 fd8 : FuncData} (D : Raw K mg "answer_begun" tAnswerBegun f fd) (T : Tx K mg CBoard CNumberedLine CStrokes CNews CPart CPlainLine CHall)
    (G_Hall_policy : OkM P w K mg base 5 CHall "policy" ["self", "way", "bounce", "gap"] (spHallPolicy CHall CBoard CNews CStrokes CPlainLine CNumberedLine) f2 fd2)
    (G_Hall_feed : OkM P w K mg base 6 CHall "feed" ["self", "now", "events"] (spHallFeed K CHall CBoard CNews CStrokes CPlainLine CNumberedLine) f3 fd3)
    (G_Hall_held : OkM P w K mg base 1 CHall "held" ["self"] (spHallHeld CHall CBoard CNews CStrokes CPlainLine CNumberedLine) f4 fd4)
    (G_Hall_write : OkM P w K mg base 5 CHall "write" ["self", "outline"] (spHallWrite K CHall CBoard CNews CStrokes CPlainLine CNumberedLine) f5 fd5)
    (G_Hall_read : OkM P w K mg base 5 CHall "read" ["self", "text"] (spHallRead K CHall CBoard CNews CStrokes CPlainLine CNumberedLine) f6 fd6)
    (G_Hall_line : OkM P w K mg base 3 CHall "line" ["self", "which"] (spHallLine CHall CBoard CNews CStrokes CPlainLine CNumberedLine) f7 fd7)
    (G_Hall_take : OkM P w K mg base 6 CHall "take" ["self", "some"] (spHallTake CHall CBoard CNews CStrokes CPlainLine CNumberedLine) f8 fd8) :
    Ok P w K mg base 7 "answer_begun" ["hall", "call", "single", "rows"] (spBegun CHall CBoard CNews CStrokes CPlainLine CNumberedLine) f fd := by
  refine ⟨D.fn.ok scAnswerBegun (fun vs H Q E h => ?_) (fun cdv A outer s H vs Q E hr h => ⟨_,
    (pss_cons (ps_if (pt_cmpR on_eq (pv 1) (pe_gi T.g_POLICY) (nomark _)) (pss_one (ps_ret (pe_ownM G_Hall_policy T.c_Hall hr (pv 0) (pa_cons (pe_ix ix_list (pv 2) pe_n (fun _ _ => rfl)) (pa_cons (pe_ix ix_list (pv 2) pe_n (fun _ _ => rfl)) (pa_cons (pe_ix ix_list (pv 2) pe_n (fun _ _ => rfl)) pa_nil)))))) pss_nil)
      (pss_cons (ps_if (pt_cmpR on_eq (pv 1) (pe_gi T.g_FEED) (nomark _)) (pss_one (ps_ret (pe_ownM G_Hall_feed T.c_Hall hr (pv 0) (pa_cons (pe_ix ix_list (pv 2) pe_n (fun _ _ => rfl)) (pa_cons (pe_ix ix_list (pv 3) pe_n (fun _ _ => rfl)) pa_nil))))) pss_nil)
      (pss_cons (ps_if (pt_cmpR on_eq (pv 1) (pe_gi T.g_HELD) (nomark _)) (pss_one (ps_ret (pe_ownM0 G_Hall_held T.c_Hall hr (pv 0)))) pss_nil)
      (pss_cons (ps_if (pt_cmpR on_eq (pv 1) (pe_gi T.g_WRITE) (nomark _)) (pss_one (ps_ret (pe_ownM G_Hall_write T.c_Hall hr (pv 0) (pa_cons (pe_ix ix_list (pv 3) pe_n (fun _ _ => rfl)) pa_nil)))) pss_nil)
      (pss_cons (ps_if (pt_cmpR on_eq (pv 1) (pe_gi T.g_READ) (nomark _)) (pss_one (ps_ret (pe_ownM G_Hall_read T.c_Hall hr (pv 0) (pa_cons (pe_ix ix_list (pv 3) pe_n (fun _ _ => rfl)) pa_nil)))) pss_nil)
      (pss_cons (ps_if (pt_cmpR on_eq (pv 1) (pe_gi T.g_LINE) (nomark _)) (pss_one (ps_ret (pe_ownM G_Hall_line T.c_Hall hr (pv 0) (pa_cons (pe_ix ix_list (pv 2) pe_n (fun _ _ => rfl)) pa_nil)))) pss_nil)
      (pss_one (ps_ret (pe_ownM G_Hall_take T.c_Hall hr (pv 0) (pa_cons (pe_ix ix_list (pv 3) pe_n (fun _ _ => rfl)) pa_nil)))))))))), ?_⟩), D.at_, D.fn.kp, D.fn.binds fun _ _ _ _ _ _ us hl => match us, hl with | [_, _, _, _], _ => rfl⟩
  · obtain ⟨hA, sA, rA, c, singles, rows, as, y, d, S, rfl, _⟩ := h
    rfl
  · obtain ⟨hA, sA, rA, c, singles, rows, as, y, d, S, rfl, hH, hs, hR, hrows, haS, hC, hlen, hnl, hc, k⟩ := h
    obtain ⟨hm, dx, bV, nV, now, xV, ho⟩ := hH.ins
    have one : ∀ (i : Nat) {x : Nat} {H' : Hp}, Evl.Ex H H' → singles[i]? = some x → Ev (tOp (rIxL K) (tVar 2) (tC (vn i))) [some (.ref hA), some (vn c), some (.ref sA), some (.ref rA)] H' (vn x) := fun i x H' e h => ev_ixN (ev_var rfl) ev_n (sq_of (e _ _ hs)) h
    have row : ∀ (i : Nat) {x : Addr} {H' : Hp}, Evl.Ex H H' → as[i]? = some x → Ev (tOp (rIxL K) (tVar 3) (tC (vn i))) [some (.ref hA), some (vn c), some (.ref sA), some (.ref rA)] H' (.ref x) := fun i x H' e h => ev_op (x := .ref rA) (y := vn i) (ev_var rfl) ev_n (rv_ixL (sq_of (e _ _ hR)) (atI_at (by
      unfold refs
      rw [List.getElem?_map, h]
      rfl)))
    have e0 : Evl.Ex H H := Evl.Ex.refl H
    refine q_when (b := decide (c = 1)) (etN (g := fun n m => decide (n = m)) (n := c) (m := 1) (ev_var rfl) ev_c trivial) (fun b1 H1 e1 => ?_) (fun b1 H1 e1 => ?_)
    · have cc := of_decide_eq_true b1
      subst cc
      have eA := e0.trans e1
      rcases hC with h | h | h | h | h | h | h | h | h | h | h <;> try (exact absurd h.1 (by decide))
      obtain ⟨_, x0, x1, x2, rfl, rfl, rfl⟩ := h
      refine v_callM (ev_var rfl) (eA _ _ ho) rfl (vs := [vn x0, vn x1, vn x2]) (fun H0 e' => ea_cons (one 0 (eA.trans e') rfl) (ea_cons (one 1 (eA.trans e') rfl) (ea_cons (one 2 (eA.trans e') rfl) ea_nil))) fun H0 e' => ?_
      have e := eA.trans e'
      exact ⟨hA, x0, x1, x2, d, S, rfl, hH.ex e, k.ex e⟩
    have nc1 := of_decide_eq_false b1
    have e01' := e0.trans e1
    refine q_when (b := decide (c = 2)) (etN (g := fun n m => decide (n = m)) (n := c) (m := 2) (ev_var rfl) ev_c trivial) (fun b2 H2 e2 => ?_) (fun b2 H2 e2 => ?_)
    · have cc := of_decide_eq_true b2
      subst cc
      have eA := e01'.trans e2
      rcases hC with h | h | h | h | h | h | h | h | h | h | h <;> try (exact absurd h.1 (by decide))
      obtain ⟨_, x0, r0, rfl, rfl, rfl⟩ := h
      obtain ⟨a0, rfl, h0⟩ := rows1 hrows
      refine v_callM (ev_var rfl) (eA _ _ ho) rfl (vs := [vn x0, .ref a0]) (fun H0 e' => ea_cons (one 0 (eA.trans e') rfl) (ea_cons (row 0 (eA.trans e') rfl) ea_nil)) fun H0 e' => ?_
      have e := eA.trans e'
      have l0 := hlen r0 (by simp)
      exact ⟨hA, a0, r0, x0, d, S, rfl, hH.ex e, sq_of (e _ _ h0), by omega, hnl, k.ex e⟩
    have nc2 := of_decide_eq_false b2
    have e02' := e01'.trans e2
    refine q_when (b := decide (c = 3)) (etN (g := fun n m => decide (n = m)) (n := c) (m := 3) (ev_var rfl) ev_c trivial) (fun b3 H3 e3 => ?_) (fun b3 H3 e3 => ?_)
    · have cc := of_decide_eq_true b3
      subst cc
      have eA := e02'.trans e3
      rcases hC with h | h | h | h | h | h | h | h | h | h | h <;> try (exact absurd h.1 (by decide))
      obtain ⟨_, rfl, rfl, rfl⟩ := h
      refine v_callM (ev_var rfl) (eA _ _ ho) rfl (vs := []) (fun H0 e' => ea_nil) fun H0 e' => ?_
      have e := eA.trans e'
      exact ⟨hA, d, S, rfl, hH.ex e, k.ex e⟩
    have nc3 := of_decide_eq_false b3
    have e03' := e02'.trans e3
    refine q_when (b := decide (c = 4)) (etN (g := fun n m => decide (n = m)) (n := c) (m := 4) (ev_var rfl) ev_c trivial) (fun b4 H4 e4 => ?_) (fun b4 H4 e4 => ?_)
    · have cc := of_decide_eq_true b4
      subst cc
      have eA := e03'.trans e4
      rcases hC with h | h | h | h | h | h | h | h | h | h | h <;> try (exact absurd h.1 (by decide))
      obtain ⟨_, r0, rfl, rfl, rfl⟩ := h
      obtain ⟨a0, rfl, h0⟩ := rows1 hrows
      refine v_callM (ev_var rfl) (eA _ _ ho) rfl (vs := [.ref a0]) (fun H0 e' => ea_cons (row 0 (eA.trans e') rfl) ea_nil) fun H0 e' => ?_
      have e := eA.trans e'
      have l0 := hlen r0 (by simp)
      exact ⟨hA, a0, r0, d, S, rfl, hH.ex e, sq_of (e _ _ h0), by omega, k.ex e⟩
    have nc4 := of_decide_eq_false b4
    have e04' := e03'.trans e4
    refine q_when (b := decide (c = 5)) (etN (g := fun n m => decide (n = m)) (n := c) (m := 5) (ev_var rfl) ev_c trivial) (fun b5 H5 e5 => ?_) (fun b5 H5 e5 => ?_)
    · have cc := of_decide_eq_true b5
      subst cc
      have eA := e04'.trans e5
      rcases hC with h | h | h | h | h | h | h | h | h | h | h <;> try (exact absurd h.1 (by decide))
      obtain ⟨_, b, rfl, rfl, rfl⟩ := h
      obtain ⟨a0, rfl, h0⟩ := rows1 hrows
      refine v_callM (ev_var rfl) (eA _ _ ho) rfl (vs := [.ref a0]) (fun H0 e' => ea_cons (row 0 (eA.trans e') rfl) ea_nil) fun H0 e' => ?_
      have e := eA.trans e'
      have l0 := hlen (b.map UInt8.toNat) (by simp)
      rw [List.length_map] at l0
      exact ⟨hA, a0, b, d, S, rfl, hH.ex e, sq_of (e _ _ h0), by omega, k.ex e⟩
    have nc5 := of_decide_eq_false b5
    have e05' := e04'.trans e5
    refine q_when (b := decide (c = 9)) (etN (g := fun n m => decide (n = m)) (n := c) (m := 9) (ev_var rfl) ev_c trivial) (fun b6 H6 e6 => ?_) (fun b6 H6 e6 => ?_)
    · have cc := of_decide_eq_true b6
      subst cc
      have eA := e05'.trans e6
      rcases hC with h | h | h | h | h | h | h | h | h | h | h <;> try (exact absurd h.1 (by decide))
      obtain ⟨_, x0, rfl, rfl, rfl⟩ := h
      refine v_callM (ev_var rfl) (eA _ _ ho) rfl (vs := [vn x0]) (fun H0 e' => ea_cons (one 0 (eA.trans e') rfl) ea_nil) fun H0 e' => ?_
      have e := eA.trans e'
      exact ⟨hA, x0, d, S, rfl, hH.ex e, k.ex e⟩
    have nc9 := of_decide_eq_false b6
    have e06' := e05'.trans e6
    have eA := e06'
    rcases hC with h | h | h | h | h | h | h | h | h | h | h <;> try (exact absurd h.1 (by omega))
    obtain ⟨_, b, rfl, rfl, rfl⟩ := h
    obtain ⟨a0, rfl, h0⟩ := rows1 hrows
    refine v_callM (ev_var rfl) (eA _ _ ho) rfl (vs := [.ref a0]) (fun H0 e' => ea_cons (row 0 (eA.trans e') rfl) ea_nil) fun H0 e' => ?_
    have e := eA.trans e'
    have l0 := hlen (b.map UInt8.toNat) (by simp)
    rw [List.length_map] at l0
    exact ⟨hA, a0, b, d, S, rfl, hH.ex e, e _ _ h0, haS _ (by simp), by omega, k.ex e⟩
theorem scAnswer : FnScope ["hall", "call", "single", "rows"] ["hall", "call", "single", "rows"] (defScope tAnswer) := ⟨rfl, rfl, rfl, by decide +kernel, rfl, by decide +kernel, by decide +kernel⟩
theorem ok_answer {f f1 f2 f3 f4 f5 : Addr} {fd fd1 fd2 fd3 fd4 fd5 : FuncData} (D : Raw K mg "answer" tAnswer f fd) (T : Tx K mg CBoard CNumberedLine CStrokes CNews CPart CPlainLine CHall)
    (G_Hall_begin : OkM P w K mg base 6 CHall "begin" ["self", "left", "middle", "bar", "labels", "digits"] (spHallBegin K CHall CBoard CNews CStrokes CPlainLine CNumberedLine) f1 fd1)
    (G_merge : Ok P w K mg base 2 "merge" ["first", "second"] (spMerge K) f2 fd2) (G_send : Ok P w K mg base 3 "send" ["chord"] spSend f3 fd3) (G_frame : Ok P w K mg base 3 "frame" ["number", "ticks", "chord"] spFrame f4 fd4)
    (G_answer_begun : Ok P w K mg base 7 "answer_begun" ["hall", "call", "single", "rows"] (spBegun CHall CBoard CNews CStrokes CPlainLine CNumberedLine) f5 fd5) :
    Ok P w K mg base 8 "answer" ["hall", "call", "single", "rows"] (spAnswer CHall CBoard CNews CStrokes CPlainLine CNumberedLine) f fd := by
  refine ⟨D.fn.ok scAnswer (fun vs H Q E h => ?_) (fun cdv A outer s H vs Q E hr h => ⟨_,
    (pss_cons (ps_if (pt_cmpR on_eq (pv 1) (pe_gi T.g_BEGIN) (nomark _)) (pss_one (ps_ret (pe_ownM G_Hall_begin T.c_Hall hr (pv 0) (pa_cons (pe_ix ix_list (pv 2) pe_n (fun _ _ => rfl)) (pa_cons (pe_ix ix_list (pv 2) pe_n (fun _ _ => rfl)) (pa_cons (pe_ix ix_list (pv 2) pe_n (fun _ _ => rfl)) (pa_cons (pe_ix ix_list (pv 3) pe_n (fun _ _ => rfl)) (pa_cons (pe_ix ix_list (pv 3) pe_n (fun _ _ => rfl)) pa_nil)))))))) pss_nil)
      (pss_cons (ps_if (pt_cmpR on_eq (pv 1) (pe_gi T.g_MERGE) (nomark _)) (pss_one (ps_ret (pe_own G_merge hr (pa_cons (pe_ix ix_list (pv 3) pe_n (fun _ _ => rfl)) (pa_cons (pe_ix ix_list (pv 3) pe_n (fun _ _ => rfl)) pa_nil))))) pss_nil)
      (pss_cons (ps_if (pt_cmpR on_eq (pv 1) (pe_gi T.g_SEND) (nomark _)) (pss_one (ps_ret (pe_own G_send hr (pa_cons (pe_ix ix_list (pv 2) pe_n (fun _ _ => rfl)) pa_nil)))) pss_nil)
      (pss_cons (ps_if (pt_cmpR on_eq (pv 1) (pe_gi T.g_FRAME) (nomark _)) (pss_one (ps_ret (pe_own G_frame hr (pa_cons (pe_ix ix_list (pv 2) pe_n (fun _ _ => rfl)) (pa_cons (pe_ix ix_list (pv 2) pe_n (fun _ _ => rfl)) (pa_cons (pe_ix ix_list (pv 2) pe_n (fun _ _ => rfl)) pa_nil)))))) pss_nil)
      (pss_cons (ps_if (pt_cmpR op_isN (pe_fld (pv 0) rfl) pe_non (nomark _)) (pss_one (ps_ret (pe_lst (pa_cons (pe_un un_neg pe_n) pa_nil)))) pss_nil)
      (pss_one (ps_ret (pe_own G_answer_begun hr (pa_cons (pv 0) (pa_cons (pv 1) (pa_cons (pv 2) (pa_cons (pv 3) pa_nil)))))))))))), ?_⟩), D.at_, D.fn.kp, D.fn.binds fun _ _ _ _ _ _ us hl => match us, hl with | [_, _, _, _], _ => rfl⟩
  · obtain ⟨hA, sA, rA, c, singles, rows, as, y, s, S, rfl, _⟩ := h
    rfl
  · obtain ⟨hA, sA, rA, c, singles, rows, as, y, s, S, rfl, hH, hs, hR, hrows, haS, hC, hlen, hnl, k⟩ := h
    obtain ⟨hm, dx, bV, nV, now, xV, ho⟩ := hH.ins
    have one : ∀ (i : Nat) {x : Nat} {H' : Hp}, Evl.Ex H H' → singles[i]? = some x → Ev (tOp (rIxL K) (tVar 2) (tC (vn i))) [some (.ref hA), some (vn c), some (.ref sA), some (.ref rA)] H' (vn x) := fun i x H' e h => ev_ixN (ev_var rfl) ev_n (sq_of (e _ _ hs)) h
    have row : ∀ (i : Nat) {x : Addr} {H' : Hp}, Evl.Ex H H' → as[i]? = some x → Ev (tOp (rIxL K) (tVar 3) (tC (vn i))) [some (.ref hA), some (vn c), some (.ref sA), some (.ref rA)] H' (.ref x) := fun i x H' e h => ev_op (x := .ref rA) (y := vn i) (ev_var rfl) ev_n (rv_ixL (sq_of (e _ _ hR)) (atI_at (by
      unfold refs
      rw [List.getElem?_map, h]
      rfl)))
    refine q_when (b := decide (c = 0)) (etN (g := fun n m => decide (n = m)) (n := c) (m := 0) (ev_var rfl) ev_c trivial) (fun b1 H1 e1 => ?_) (fun b1 H1 e1 => ?_)
    · have c0 := of_decide_eq_true b1
      subst c0
      rcases hC with h | h | h | h | h | h | h | h | h | h | h <;> try (exact absurd h.1 (by decide))
      obtain ⟨_, x0, x1, x2, r0, r1, rfl, rfl, rfl⟩ := h
      obtain ⟨a0, a1, rfl, h0, h1⟩ := rows2 hrows
      refine v_callM (ev_var rfl) (e1 _ _ ho) rfl (vs := [vn x0, vn x1, vn x2, .ref a0, .ref a1]) (fun H2 e2 => ea_cons (one 0 (e1.trans e2) rfl) (ea_cons (one 1 (e1.trans e2) rfl) (ea_cons (one 2 (e1.trans e2) rfl) (ea_cons (row 0 (e1.trans e2) rfl) (ea_cons (row 1 (e1.trans e2) rfl) ea_nil))))) fun H2 e2 => ?_
      have e := e1.trans e2
      exact ⟨hA, a0, a1, x0, x1, x2, r0, r1, s, S, rfl, hH.ex e, sq_of (e _ _ h0), sq_of (e _ _ h1), k.ex e⟩
    have nc0 := of_decide_eq_false b1
    refine q_when (b := decide (c = 6)) (etN (g := fun n m => decide (n = m)) (n := c) (m := 6) (ev_var rfl) ev_c trivial) (fun b2 H2 e2 => ?_) (fun b2 H2 e2 => ?_)
    · have c6 := of_decide_eq_true b2
      subst c6
      have eA := e1.trans e2
      rcases hC with h | h | h | h | h | h | h | h | h | h | h <;> try (exact absurd h.1 (by decide))
      obtain ⟨_, r0, r1, rfl, rfl, rfl⟩ := h
      obtain ⟨a0, a1, rfl, h0, h1⟩ := rows2 hrows
      refine v_call (vs := [.ref a0, .ref a1]) (ea_cons (row 0 eA rfl) (ea_cons (row 1 eA rfl) ea_nil)) fun H3 e3 => ?_
      have e := eA.trans e3
      have l0 := hlen r0 (by simp)
      have l1 := hlen r1 (by simp)
      exact ⟨a0, a1, r0, r1, s, rfl, sq_of (e _ _ h0), sq_of (e _ _ h1), l0, l1, fun p H4 hp e4 h4 => k H4 p S (Fr.of (e.trans e4)) (fun b hb => Or.inl hb) (hH.ex (e.trans e4)) h4⟩
    have nc6 := of_decide_eq_false b2
    have e02 := e1.trans e2
    refine q_when (b := decide (c = 7)) (etN (g := fun n m => decide (n = m)) (n := c) (m := 7) (ev_var rfl) ev_c trivial) (fun b3 H3 e3 => ?_) (fun b3 H3 e3 => ?_)
    · have c7 := of_decide_eq_true b3
      subst c7
      have eA := e02.trans e3
      rcases hC with h | h | h | h | h | h | h | h | h | h | h <;> try (exact absurd h.1 (by decide))
      obtain ⟨_, x0, rfl, rfl, rfl⟩ := h
      refine v_call (vs := [vn x0]) (ea_cons (one 0 eA rfl) ea_nil) fun H4 e4 => ?_
      have e := eA.trans e4
      exact ⟨x0, s, rfl, fun p H5 hp e5 h5 => k H5 p S (Fr.of (e.trans e5)) (fun b hb => Or.inl hb) (hH.ex (e.trans e5)) h5⟩
    have nc7 := of_decide_eq_false b3
    have e03 := e02.trans e3
    refine q_when (b := decide (c = 8)) (etN (g := fun n m => decide (n = m)) (n := c) (m := 8) (ev_var rfl) ev_c trivial) (fun b4 H4 e4 => ?_) (fun b4 H4 e4 => ?_)
    · have c8 := of_decide_eq_true b4
      subst c8
      have eA := e03.trans e4
      rcases hC with h | h | h | h | h | h | h | h | h | h | h <;> try (exact absurd h.1 (by decide))
      obtain ⟨_, x0, x1, x2, rfl, rfl, rfl⟩ := h
      refine v_call (vs := [vn x0, vn x1, vn x2]) (ea_cons (one 0 eA rfl) (ea_cons (one 1 eA rfl) (ea_cons (one 2 eA rfl) ea_nil))) fun H5 e5 => ?_
      have e := eA.trans e5
      exact ⟨x0, x1, x2, s, rfl, fun p H6 hp e6 h6 => k H6 p S (Fr.of (e.trans e6)) (fun b hb => Or.inl hb) (hH.ex (e.trans e6)) h6⟩
    have nc8 := of_decide_eq_false b4
    have e04 := e03.trans e4
    cases s with
    | none =>
      obtain ⟨hS, dx', ho'⟩ := id hH
      refine q_when (b := true) (et_test (ev_op (ev_fld (ev_var rfl) (e04 _ _ ho') T.c_Hall T.n_Hall_board (v := .non) rfl) ev_c rv_isN)) (fun _ H5 e5 => ?_) (fun b _ _ => by cases b)
      refine s_retL el_neg1 fun r H6 hr e6 h6 => ?_
      have e := (e04.trans e5).trans e6
      have hst : KeysCalls.step none y = (none, EARLY) := by
        rcases hC with h | h | h | h | h | h | h | h | h | h | h
        · exact absurd h.1 nc0
        · obtain ⟨_, _, _, _, _, _, rfl⟩ := h; rfl
        · obtain ⟨_, _, _, _, _, rfl⟩ := h; rfl
        · obtain ⟨_, _, _, rfl⟩ := h; rfl
        · obtain ⟨_, _, _, _, rfl⟩ := h; rfl
        · obtain ⟨_, _, _, _, rfl⟩ := h; rfl
        · exact absurd h.1 nc6
        · exact absurd h.1 nc7
        · exact absurd h.1 nc8
        · obtain ⟨_, _, _, _, rfl⟩ := h; rfl
        · obtain ⟨_, _, _, _, rfl⟩ := h; rfl
      rw [hst] at k
      exact k H6 r S (Fr.of e) (fun b hb => Or.inl hb) (hH.ex e) h6
    | some d =>
      obtain ⟨dx', bA, nA, bdx, lA, dA, bs, ndx, uA, wA, sA', sdx, mA, as', xA, L, hW⟩ := id hH
      refine q_when (b := false) (et_test (ev_op (ev_fld (ev_var rfl) (e04 _ _ hW.ob) T.c_Hall T.n_Hall_board (v := .ref bA) rfl) ev_c rv_isN)) (fun b _ _ => by cases b) (fun _ H5 e5 => ?_)
      have e05 := e04.trans e5
      refine v_call (vs := [.ref hA, vn c, .ref sA, .ref rA]) (ea_cons (ev_var rfl) (ea_cons (ev_var rfl) (ea_cons (ev_var rfl) (ea_cons (ev_var rfl) ea_nil)))) fun H6 e6 => ?_
      have e := e05.trans e6
      have hst : KeysCalls.step (some d) y = (some (onDesk d y).1, (onDesk d y).2) := by
        rcases hC with h | h | h | h | h | h | h | h | h | h | h
        · exact absurd h.1 nc0
        · obtain ⟨_, _, _, _, _, _, rfl⟩ := h; rfl
        · obtain ⟨_, _, _, _, _, rfl⟩ := h; rfl
        · obtain ⟨_, _, _, rfl⟩ := h; rfl
        · obtain ⟨_, _, _, _, rfl⟩ := h; rfl
        · obtain ⟨_, _, _, _, rfl⟩ := h; rfl
        · exact absurd h.1 nc6
        · exact absurd h.1 nc7
        · exact absurd h.1 nc8
        · obtain ⟨_, _, _, _, rfl⟩ := h; rfl
        · obtain ⟨_, _, _, _, rfl⟩ := h; rfl
      rw [hst] at k
      exact ⟨hA, sA, rA, c, singles, rows, as, y, d, S, rfl, hH.ex e, e _ _ hs, e _ _ hR, hrows.ex e, haS, hC, hlen, hnl, ⟨nc0, nc6, nc7, nc8⟩, k.ex e⟩
end
end Kx

-- KEndA
/-! What the end leans on: the head's facts by names, the classes apart, the table of the calls' shapes. -/
namespace Kx
open PySem PySem.Spec PyProof.Rows L2 Evl

theorem vns_zns (l : List Nat) : vns l = (zns l).map V.int := by
  unfold vns zns
  rw [List.map_map]
  rfl
/-- the i-th item of the table SHAPES -/
def shAt (i : Nat) (K : PySem.W.Frag) : Addr := match K.lookup (He.ga K "SHAPES") with
  | some ⟨_, _, .seq its _, _⟩ => (match its.toList[i]? with
    | some (.ref a) => a
    | _ => 0)
  | _ => 0
def tupA (K : PySem.W.Frag) (a : Addr) (vs : List V) : Bool := match K.lookup a with
  | some ⟨.type c, _, .seq its _, _⟩ => decide (c = "tuple") && (decide (its.size ≤ sizeLine) && He.relAll vs its.toList)
  | _ => false
theorem tupA_ok {K : PySem.W.Frag} {a : Addr} {vs : List V} (h : tupA K a vs = true) (H : Hp) : SqT K H a vs := by
  unfold tupA at h
  split at h
  · rename_i c od its n osl q
    rw [Bool.and_eq_true, Bool.and_eq_true] at h
    obtain ⟨h1, h2, h3⟩ := h
    exact .inr ⟨_, its, n, q, congrArg Value.type (of_decide_eq_true h1), rfl, of_decide_eq_true h2, He.relAll_ok h3⟩
  · cases h
def shRefs (n : Nat) (K : PySem.W.Frag) : List Addr := (List.range n).map fun i => shAt i K
def extra (cls : List Str) (tab : List (Nat × Nat)) (K : PySem.W.Frag) : Bool :=
  decide ((cls.map (He.ga K)).Nodup) && (tupA K (He.ga K "SHAPES") (refs (shRefs tab.length K)) && (tab.zipIdx.all fun p => tupA K (shAt p.2 K) [vn p.1.1, vn p.1.2]))
abbrev AlX : Type := Bool × He.Al
def obsX (cls : List Str) (tab : List (Nat × Nat)) (fa : List He.Fa) (fn : List He.FnD) (K : PySem.W.Frag) : AlX := (extra cls tab K, He.obsE fa fn K)
def valX (fn : List He.FnD) : AlX := (true, He.valE fn)
def SaysX (cls : List Str) (tab : List (Nat × Nat)) (fa : List He.Fa) (fn : List He.FnD) (K : PySem.W.Frag) : Prop := obsX cls tab fa fn K = valX fn
def obsXG (as : List Addr) (cls : List Str) (tab : List (Nat × Nat)) (fa : List He.Fa) (fn : List He.FnD) (g : Addr → Option Obj) : AlX := obsX cls tab fa fn (He.frG g as)
def hookX (as : List Addr) (cls : List Str) (tab : List (Nat × Nat)) (fa : List He.Fa) (fn : List He.FnD) : PySem.W.Hook where
  α := AlX
  obs := fun s => obsXG as cls tab fa fn s.heap.get?
  val := fun _ => valX fn
  says := fun _ h => ∃ K : PySem.W.Frag, K.In h ∧ SaysX cls tab fa fn K
  of := fun _ _ e => ⟨_, He.frG_in, e⟩
  keeps := fun _ _ _ ⟨K, hK, c⟩ k => ⟨K, PySem.W.Frag.In.keeps hK k, c⟩
theorem obsXG_eq {as : List Addr} {cls : List Str} {tab : List (Nat × Nat)} {fa : List He.Fa} {fn : List He.FnD} {g : Addr → Option Obj} {s : Shared} (h : ∀ a, g a = s.heap.get? a) : obsXG as cls tab fa fn g = (hookX as cls tab fa fn).obs s := by
  have e : g = s.heap.get? := funext h
  rw [e] <;> rfl
section
variable {cls : List Str} {tab : List (Nat × Nat)} {fa : List He.Fa} {fn : List He.FnD} {K : PySem.W.Frag}
/-- a look at an end in three parts -/
theorem comb {σ α β : Type} {x : Option σ} {A : σ → Bool} {B : σ → β} {b : β} {E F G : σ → Bool} {N : σ → α} {v : α} (h1 : x.map (fun s => (A s, B s)) = some (true, b)) (h2 : x.map (fun s => (E s, F s)) = some (true, true)) (h3 : x.map (fun s => (G s, N s)) = some (true, v)) :
    x.map (fun s => (A s, B s, (E s, (F s && G s, N s)))) = some (true, b, (true, (true, v))) := by
  cases x with
  | none => cases h1
  | some s =>
    have e1 : (A s, B s) = (true, b) := Option.some.inj h1
    have e2 : (E s, F s) = (true, true) := Option.some.inj h2
    have e3 : (G s, N s) = (true, v) := Option.some.inj h3
    have a1 : A s = true := congrArg Prod.fst e1
    have a2 : B s = b := congrArg Prod.snd e1
    have a3 : E s = true := congrArg Prod.fst e2
    have a4 : F s = true := congrArg Prod.snd e2
    have a5 : G s = true := congrArg Prod.fst e3
    have a6 : N s = v := congrArg Prod.snd e3
    show some (A s, B s, (E s, (F s && G s, N s))) = _
    rw [a1, a2, a3, a4, a5, a6]
    rfl
/-- the run's equation, its three looks apart -/
theorem run_of {r : PySem.W.OpenSpec} {q : Program} {as : List Addr} {cls : List Str} {tab : List (Nat × Nat)} {fa : List He.Fa} {fn : List He.FnD} {M : Nat} {loose : List Str} {w : World}
    (hA : ∀ os : OsState, (HandSHeadRun.endF (HandSHeadRun.stepQ (HandSHeadRun.denQ HandSHeadRun.tabQ) r.prog w) M r.prog w os).map (fun s => (HandSHeadRun.looksF r.prog (PySem.W.boot_heap w.params) s.abs, HandSHeadRun.seenQ q loose (importedModules r.prog.main.body) (fun s => PySem.W.xlAt q [] s && PySem.W.recOk [] s) s.abs)) = some (true, PySem.W.openGood q loose))
    (hB : ∀ os : OsState, (HandSHeadRun.endF (HandSHeadRun.stepQ (HandSHeadRun.denQ HandSHeadRun.tabQ) r.prog w) M r.prog w os).map (fun s => (extra cls tab (He.frG (HandSHeadRun.getT s) as), fa.all fun f => f.ok (He.frG (HandSHeadRun.getT s) as))) = some (true, true))
    (hC : ∀ os : OsState, (HandSHeadRun.endF (HandSHeadRun.stepQ (HandSHeadRun.denQ HandSHeadRun.tabQ) r.prog w) M r.prog w os).map (fun s => (fn.all fun d => (He.Fa.code d.at_ d.qual).ok (He.frG (HandSHeadRun.getT s) as), fn.map fun d => He.fnObs (He.frG (HandSHeadRun.getT s) as) d.at_)) = some (true, fn.map He.FnD.val)) :
    HandSHeadRun.RunEqS r q (hookX as cls tab fa fn) (fun s => obsXG as cls tab fa fn (HandSHeadRun.getT s)) M loose w := fun os => comb (hA os) (hB os) (hC os)
theorem SaysX.says (c : SaysX cls tab fa fn K) : He.SaysE fa fn K := congrArg (fun z : AlX => z.2) c
theorem SaysX.fact (c : SaysX cls tab fa fn K) (i : Nat) {f : He.Fa} (h : fa[i]? = some f) : f.ok K = true := c.says.fact i h
theorem SaysX.extra (c : SaysX cls tab fa fn K) : extra cls tab K = true := congrArg (fun z : AlX => z.1) c
theorem SaysX.dif (c : SaysX cls tab fa fn K) (i j : Nat) {x y : Str} (hi : cls[i]? = some x) (hj : cls[j]? = some y) (n : i < j) : He.ga K x ≠ He.ga K y := by
  have h := (Bool.and_eq_true_iff.mp c.extra).1
  have nd := of_decide_eq_true h
  rw [List.nodup_iff_pairwise_ne, List.pairwise_iff_getElem] at nd
  obtain ⟨li, ei⟩ := List.getElem?_eq_some_iff.mp hi
  obtain ⟨lj, ej⟩ := List.getElem?_eq_some_iff.mp hj
  have := nd i j (by rw [List.length_map]; exact li) (by rw [List.length_map]; exact lj) n
  rw [List.getElem_map, List.getElem_map, ei, ej] at this
  exact this
theorem SaysX.shapes (c : SaysX cls tab fa fn K) (full : ∀ c n k : Nat, PyWrchka.shape (c : Int) = some (n, k) → tab[c]? = some (n, k)) : ShapeTab K (He.ga K "SHAPES") := by
  have h := (Bool.and_eq_true_iff.mp c.extra).2
  rw [Bool.and_eq_true] at h
  refine ⟨_, fun H => tupA_ok h.1 H, fun q n k hs => ?_⟩
  have hq := full q n k hs
  have lt := (List.getElem?_eq_some_iff.mp hq).1
  refine ⟨shAt q K, ?_, fun H => ?_⟩
  · unfold shRefs
    rw [List.getElem?_map, List.getElem?_range lt]
    rfl
  · have := List.all_eq_true.mp h.2 ((n, k), q) (List.mem_zipIdx_iff_getElem?.mpr hq)
    exact tupA_ok this H
theorem fn_says (c : SaysX cls tab fa fn K) (i : Nat) {at_ : Str × Option Str} {x qual : Str} {st : Stmt} (h : fn[i]? = some ⟨at_, x, qual, defArgs st, defBody st, defScope st⟩) (kp : PySem.W.keepIn K (.ref (He.fAd K at_)) = true) : ∃ fd, Fun K x qual st (He.fAd K at_) fd := by
  obtain ⟨oc, od, osl, kV, doc, pm, an, cdv, ct, l, k⟩ := c.says.def_ i h
  exact ⟨_, fun_mk (st := st) l k kp⟩
end
end Kx

-- KEnd
/-! The end: the head's facts by names, the defs put together. Printed by gen.py. -/
namespace Kx
open PySem PySem.Spec PyProof.Rows L2 Evl
def fnE0 : List He.FnD := [
  ⟨("counted", none), "counted", "counted", defArgs tCounted, defBody tCounted, defScope tCounted⟩,
  ⟨("rows_at", none), "rows_at", "rows_at", defArgs tRowsAt, defBody tRowsAt, defScope tRowsAt⟩,
  ⟨("in_order", none), "in_order", "in_order", defArgs tInOrder, defBody tInOrder, defScope tInOrder⟩,
  ⟨("merged", none), "merged", "merged", defArgs tMerged, defBody tMerged, defScope tMerged⟩,
  ⟨("merge", none), "merge", "merge", defArgs tMerge, defBody tMerge, defScope tMerge⟩,
  ⟨("is_digit", none), "is_digit", "is_digit", defArgs tIsDigit, defBody tIsDigit, defScope tIsDigit⟩,
  ⟨("is_label", none), "is_label", "is_label", defArgs tIsLabel, defBody tIsLabel, defScope tIsLabel⟩,
  ⟨("utf8", none), "utf8", "utf8", defArgs tUtf8, defBody tUtf8, defScope tUtf8⟩,
  ⟨("is_chord", none), "is_chord", "is_chord", defArgs tIsChord, defBody tIsChord, defScope tIsChord⟩,
  ⟨("all_differ", none), "all_differ", "all_differ", defArgs tAllDiffer, defBody tAllDiffer, defScope tAllDiffer⟩,
  ⟨("labels_fit", none), "labels_fit", "labels_fit", defArgs tLabelsFit, defBody tLabelsFit, defScope tLabelsFit⟩,
  ⟨("digits_fit", none), "digits_fit", "digits_fit", defArgs tDigitsFit, defBody tDigitsFit, defScope tDigitsFit⟩,
  ⟨("is_keyboard", none), "is_keyboard", "is_keyboard", defArgs tIsKeyboard, defBody tIsKeyboard, defScope tIsKeyboard⟩,
  ⟨("Board", some "__init__"), "__init__", "Board.__init__", defArgs tBoardInit, defBody tBoardInit, defScope tBoardInit⟩,
  ⟨("Board", some "owns"), "owns", "Board.owns", defArgs tBoardOwns, defBody tBoardOwns, defScope tBoardOwns⟩,
  ⟨("Board", some "keys_of"), "keys_of", "Board.keys_of", defArgs tBoardKeysOf, defBody tBoardKeysOf, defScope tBoardKeysOf⟩,
  ⟨("Board", some "is_bar"), "is_bar", "Board.is_bar", defArgs tBoardIsBar, defBody tBoardIsBar, defScope tBoardIsBar⟩,
  ⟨("check_of", none), "check_of", "check_of", defArgs tCheckOf, defBody tCheckOf, defScope tCheckOf⟩,
  ⟨("ticks_bytes", none), "ticks_bytes", "ticks_bytes", defArgs tTicksBytes, defBody tTicksBytes, defScope tTicksBytes⟩,
  ⟨("ticks_of", none), "ticks_of", "ticks_of", defArgs tTicksOf, defBody tTicksOf, defScope tTicksOf⟩,
  ⟨("chord_bytes", none), "chord_bytes", "chord_bytes", defArgs tChordBytes, defBody tChordBytes, defScope tChordBytes⟩,
  ⟨("chord_of_bodies", none), "chord_of", "chord_of", defArgs tChordOfBodies, defBody tChordOfBodies, defScope tChordOfBodies⟩,
  ⟨("body_of", none), "body_of", "body_of", defArgs tBodyOf, defBody tBodyOf, defScope tBodyOf⟩,
  ⟨("ticks_in", none), "ticks_in", "ticks_in", defArgs tTicksIn, defBody tTicksIn, defScope tTicksIn⟩,
  ⟨("chord_in", none), "chord_in", "chord_in", defArgs tChordIn, defBody tChordIn, defScope tChordIn⟩]
def fnE1 : List He.FnD := [
  ⟨("fault_in", none), "fault_in", "fault_in", defArgs tFaultIn, defBody tFaultIn, defScope tFaultIn⟩,
  ⟨("fault_told", none), "fault_told", "fault_told", defArgs tFaultTold, defBody tFaultTold, defScope tFaultTold⟩,
  ⟨("chord_told", none), "chord_told", "chord_told", defArgs tChordTold, defBody tChordTold, defScope tChordTold⟩,
  ⟨("is_reserved", none), "is_reserved", "is_reserved", defArgs tIsReserved, defBody tIsReserved, defScope tIsReserved⟩,
  ⟨("frame", none), "frame", "frame", defArgs tFrame, defBody tFrame, defScope tFrame⟩,
  ⟨("NumberedLine", some "__init__"), "__init__", "NumberedLine.__init__", defArgs tNumberedLineInit, defBody tNumberedLineInit, defScope tNumberedLineInit⟩,
  ⟨("NumberedLine", some "receive"), "receive", "NumberedLine.receive", defArgs tNumberedLineReceive, defBody tNumberedLineReceive, defScope tNumberedLineReceive⟩,
  ⟨("NumberedLine", some "enter"), "enter", "NumberedLine.enter", defArgs tNumberedLineEnter, defBody tNumberedLineEnter, defScope tNumberedLineEnter⟩,
  ⟨("NumberedLine", some "leave"), "leave", "NumberedLine.leave", defArgs tNumberedLineLeave, defBody tNumberedLineLeave, defScope tNumberedLineLeave⟩,
  ⟨("NumberedLine", some "put_escaped"), "put_escaped", "NumberedLine.put_escaped", defArgs tNumberedLinePutEscaped, defBody tNumberedLinePutEscaped, defScope tNumberedLinePutEscaped⟩,
  ⟨("NumberedLine", some "put"), "put", "NumberedLine.put", defArgs tNumberedLinePut, defBody tNumberedLinePut, defScope tNumberedLinePut⟩,
  ⟨("NumberedLine", some "end_frame"), "end_frame", "NumberedLine.end_frame", defArgs tNumberedLineEndFrame, defBody tNumberedLineEndFrame, defScope tNumberedLineEndFrame⟩,
  ⟨("Strokes", some "__init__"), "__init__", "Strokes.__init__", defArgs tStrokesInit, defBody tStrokesInit, defScope tStrokesInit⟩,
  ⟨("Strokes", some "make"), "make", "Strokes.make", defArgs tStrokesMake, defBody tStrokesMake, defScope tStrokesMake⟩,
  ⟨("Strokes", some "reach"), "reach", "Strokes.reach", defArgs tStrokesReach, defBody tStrokesReach, defScope tStrokesReach⟩,
  ⟨("Strokes", some "press"), "press", "Strokes.press", defArgs tStrokesPress, defBody tStrokesPress, defScope tStrokesPress⟩,
  ⟨("Strokes", some "lift"), "lift", "Strokes.lift", defArgs tStrokesLift, defBody tStrokesLift, defScope tStrokesLift⟩,
  ⟨("Strokes", some "hand_over"), "hand_over", "Strokes.hand_over", defArgs tStrokesHandOver, defBody tStrokesHandOver, defScope tStrokesHandOver⟩,
  ⟨("changes_in", none), "changes_in", "changes_in", defArgs tChangesIn, defBody tChangesIn, defScope tChangesIn⟩,
  ⟨("fates_of", none), "fates_of", "fates_of", defArgs tFatesOf, defBody tFatesOf, defScope tFatesOf⟩,
  ⟨("News", some "__init__"), "__init__", "News.__init__", defArgs tNewsInit, defBody tNewsInit, defScope tNewsInit⟩,
  ⟨("News", some "come"), "come", "News.come", defArgs tNewsCome, defBody tNewsCome, defScope tNewsCome⟩,
  ⟨("News", some "settle"), "settle", "News.settle", defArgs tNewsSettle, defBody tNewsSettle, defScope tNewsSettle⟩,
  ⟨("is_outline", none), "is_outline", "is_outline", defArgs tIsOutline, defBody tIsOutline, defScope tIsOutline⟩,
  ⟨("chord_text", none), "chord_text", "chord_text", defArgs tChordText, defBody tChordText, defScope tChordText⟩]
def fnE2 : List He.FnD := [
  ⟨("outline_text", none), "outline_text", "outline_text", defArgs tOutlineText, defBody tOutlineText, defScope tOutlineText⟩,
  ⟨("shared_length", none), "shared_length", "shared_length", defArgs tSharedLength, defBody tSharedLength, defScope tSharedLength⟩,
  ⟨("Part", some "__init__"), "__init__", "Part.__init__", defArgs tPartInit, defBody tPartInit, defScope tPartInit⟩,
  ⟨("Part", some "may_dash"), "may_dash", "Part.may_dash", defArgs tPartMayDash, defBody tPartMayDash, defScope tPartMayDash⟩,
  ⟨("Part", some "dash"), "dash", "Part.dash", defArgs tPartDash, defBody tPartDash, defScope tPartDash⟩,
  ⟨("Part", some "marks"), "marks", "Part.marks", defArgs tPartMarks, defBody tPartMarks, defScope tPartMarks⟩,
  ⟨("Part", some "digit_key_marks"), "digit_key_marks", "Part.digit_key_marks", defArgs tPartDigitKeyMarks, defBody tPartDigitKeyMarks, defScope tPartDigitKeyMarks⟩,
  ⟨("Part", some "press"), "press", "Part.press", defArgs tPartPress, defBody tPartPress, defScope tPartPress⟩,
  ⟨("Part", some "press_mark"), "press_mark", "Part.press_mark", defArgs tPartPressMark, defBody tPartPressMark, defScope tPartPressMark⟩,
  ⟨("read_outline", none), "read_outline", "read_outline", defArgs tReadOutline, defBody tReadOutline, defScope tReadOutline⟩,
  ⟨("first_byte", none), "first_byte", "first_byte", defArgs tFirstByte, defBody tFirstByte, defScope tFirstByte⟩,
  ⟨("packet_of", none), "packet_of", "packet_of", defArgs tPacketOf, defBody tPacketOf, defScope tPacketOf⟩,
  ⟨("chord_of_packets", none), "chord_of", "chord_of", defArgs tChordOfPackets, defBody tChordOfPackets, defScope tChordOfPackets⟩,
  ⟨("send", none), "send", "send", defArgs tSend, defBody tSend, defScope tSend⟩,
  ⟨("PlainLine", some "__init__"), "__init__", "PlainLine.__init__", defArgs tPlainLineInit, defBody tPlainLineInit, defScope tPlainLineInit⟩,
  ⟨("PlainLine", some "receive"), "receive", "PlainLine.receive", defArgs tPlainLineReceive, defBody tPlainLineReceive, defScope tPlainLineReceive⟩,
  ⟨("PlainLine", some "judge"), "judge", "PlainLine.judge", defArgs tPlainLineJudge, defBody tPlainLineJudge, defScope tPlainLineJudge⟩,
  ⟨("events_fit", none), "events_fit", "events_fit", defArgs tEventsFit, defBody tEventsFit, defScope tEventsFit⟩,
  ⟨("Hall", some "__init__"), "__init__", "Hall.__init__", defArgs tHallInit, defBody tHallInit, defScope tHallInit⟩,
  ⟨("Hall", some "begin"), "begin", "Hall.begin", defArgs tHallBegin, defBody tHallBegin, defScope tHallBegin⟩,
  ⟨("Hall", some "policy"), "policy", "Hall.policy", defArgs tHallPolicy, defBody tHallPolicy, defScope tHallPolicy⟩,
  ⟨("Hall", some "feed"), "feed", "Hall.feed", defArgs tHallFeed, defBody tHallFeed, defScope tHallFeed⟩,
  ⟨("Hall", some "held"), "held", "Hall.held", defArgs tHallHeld, defBody tHallHeld, defScope tHallHeld⟩,
  ⟨("Hall", some "write"), "write", "Hall.write", defArgs tHallWrite, defBody tHallWrite, defScope tHallWrite⟩,
  ⟨("Hall", some "read"), "read", "Hall.read", defArgs tHallRead, defBody tHallRead, defScope tHallRead⟩]
def fnE3 : List He.FnD := [
  ⟨("Hall", some "line"), "line", "Hall.line", defArgs tHallLine, defBody tHallLine, defScope tHallLine⟩,
  ⟨("Hall", some "take"), "take", "Hall.take", defArgs tHallTake, defBody tHallTake, defScope tHallTake⟩,
  ⟨("answer_begun", none), "answer_begun", "answer_begun", defArgs tAnswerBegun, defBody tAnswerBegun, defScope tAnswerBegun⟩,
  ⟨("answer", none), "answer", "answer", defArgs tAnswer, defBody tAnswer, defScope tAnswer⟩,
  ⟨("answers", none), "answers", "answers", defArgs tAnswers, defBody tAnswers, defScope tAnswers⟩]
def fnE : List He.FnD := fnE0 ++ (fnE1 ++ (fnE2 ++ (fnE3)))
def faE0 : List He.Fa := [
  .int "SPACE" ((32 : Nat) : Int),
  .int "BAR_SIGN" ((35 : Nat) : Int),
  .int "DASH" ((45 : Nat) : Int),
  .int "SLASH" ((47 : Nat) : Int),
  .int "DIGIT_ZERO" ((48 : Nat) : Int),
  .int "DIGIT_NINE" ((57 : Nat) : Int),
  .int "DELETE" ((127 : Nat) : Int),
  .int "FIRST_SURROGATE" ((55296 : Nat) : Int),
  .int "LAST_SURROGATE" ((57343 : Nat) : Int),
  .int "LAST_CHARACTER" ((1114111 : Nat) : Int),
  .int "MOST_KEYS" ((48 : Nat) : Int),
  .int "SHORTEST_BODY" ((10 : Nat) : Int),
  .int "LONGEST_BODY" ((13 : Nat) : Int),
  .int "TICKS_START" ((1 : Nat) : Int),
  .int "CHORD_START" ((8 : Nat) : Int),
  .int "CHECK_START" ((2 : Nat) : Int),
  .int "CHORD_LENGTH" ((6 : Nat) : Int),
  .int "FIRST_CHECK" ((65535 : Nat) : Int),
  .int "POLYNOMIAL" ((69665 : Nat) : Int),
  .int "NO_FAULT" ((0 : Nat) : Int),
  .int "TOO_SHORT" ((5 : Nat) : Int),
  .int "WRONG_CHECK" ((6 : Nat) : Int),
  .int "WRONG_TICKS" ((7 : Nat) : Int),
  .int "NO_CHORD_bodies" ((8 : Nat) : Int),
  .int "CHORD" ((0 : Nat) : Int)]
def faE1 : List He.Fa := [
  .int "OPENING" ((2 : Nat) : Int),
  .int "CLOSING" ((3 : Nat) : Int),
  .int "ESCAPE" ((16 : Nat) : Int),
  .int "TURNED_BIT" ((32 : Nat) : Int),
  .int "NUMBERS_frames" ((256 : Nat) : Int),
  .int "MOST_LOST" ((127 : Nat) : Int),
  .int "TICKS_END_frames" ((268435456 : Nat) : Int),
  .int "STRAY_frames" ((1 : Nat) : Int),
  .int "CUT_OFF_frames" ((2 : Nat) : Int),
  .int "WRONG_ESCAPE" ((3 : Nat) : Int),
  .int "TOO_LONG" ((4 : Nat) : Int),
  .int "OLD" ((9 : Nat) : Int),
  .int "ALL_UP" ((0 : Nat) : Int),
  .int "FIRST_UP" ((1 : Nat) : Int),
  .int "BY_TIME" ((2 : Nat) : Int),
  .int "MOST_WAITING" ((1024 : Nat) : Int),
  .int "BELIEVED" ((0 : Nat) : Int),
  .int "BOUNCED" ((1 : Nat) : Int),
  .int "UNSURE" ((2 : Nat) : Int),
  .int "MOST_CHORDS" ((10 : Nat) : Int),
  .int "OPEN" ((0 : Nat) : Int),
  .int "WITHOUT_BAR" ((1 : Nat) : Int),
  .int "BAR_ALONE" ((2 : Nat) : Int),
  .int "NUMBERS_outlines" ((3 : Nat) : Int),
  .int "FIRST_MARK" ((128 : Nat) : Int)]
def faE2 : List He.Fa := [
  .int "ODD_MARK" ((64 : Nat) : Int),
  .int "PACKET_LENGTH" ((7 : Nat) : Int),
  .int "STRAY_packets" ((1 : Nat) : Int),
  .int "CUT_OFF_packets" ((2 : Nat) : Int),
  .int "WRONG_ODDNESS" ((3 : Nat) : Int),
  .int "NO_CHORD_packets" ((4 : Nat) : Int),
  .int "TICKS_END_hall" ((1099511627776 : Nat) : Int),
  .int "MOST_EVENTS" ((4096 : Nat) : Int),
  .int "MOST_TEXT" ((4096 : Nat) : Int),
  .int "LAST_WAY" ((2 : Nat) : Int),
  .int "MOST_BOUNCE" ((1000 : Nat) : Int),
  .int "MOST_GAP" ((10000 : Nat) : Int),
  .int "PLAIN" ((0 : Nat) : Int),
  .int "NUMBERED" ((1 : Nat) : Int),
  .int "BEGIN" ((0 : Nat) : Int),
  .int "POLICY" ((1 : Nat) : Int),
  .int "FEED" ((2 : Nat) : Int),
  .int "HELD" ((3 : Nat) : Int),
  .int "WRITE" ((4 : Nat) : Int),
  .int "READ" ((5 : Nat) : Int),
  .int "MERGE" ((6 : Nat) : Int),
  .int "SEND" ((7 : Nat) : Int),
  .int "FRAME" ((8 : Nat) : Int),
  .int "LINE" ((9 : Nat) : Int),
  .free "all"]
def faE3 : List He.Fa := [
  .free "any",
  .free "dict",
  .free "enumerate",
  .free "len",
  .free "list",
  .free "max",
  .free "range",
  .free "reversed",
  .free "set",
  .free "sum",
  .free "zip",
  .cls "Board",
  .noat "Board" "size",
  .noat "Board" "middle_start",
  .noat "Board" "right_start",
  .noat "Board" "has_bar",
  .noat "Board" "labels",
  .noat "Board" "digits",
  .cls "NumberedLine",
  .noat "NumberedLine" "board",
  .noat "NumberedLine" "place",
  .noat "NumberedLine" "start",
  .noat "NumberedLine" "body",
  .noat "NumberedLine" "escaped",
  .noat "NumberedLine" "awaited"]
def faE4 : List He.Fa := [
  .cls "Strokes",
  .noat "Strokes" "way",
  .noat "Strokes" "gap",
  .noat "Strokes" "keys_down",
  .noat "Strokes" "gone_down",
  .noat "Strokes" "last_down",
  .noat "Strokes" "made",
  .cls "News",
  .noat "News" "bounce",
  .noat "News" "pressed",
  .noat "News" "last_ups",
  .noat "News" "waiting",
  .noat "News" "strokes",
  .cls "Part",
  .noat "Part" "board",
  .noat "Part" "chord",
  .noat "Part" "lowest",
  .noat "Part" "right_open",
  .noat "Part" "settled",
  .noat "Part" "complete",
  .cls "PlainLine",
  .noat "PlainLine" "board",
  .noat "PlainLine" "place",
  .noat "PlainLine" "start",
  .noat "PlainLine" "packet"]
def faE5 : List He.Fa := [
  .cls "Hall",
  .noat "Hall" "board",
  .noat "Hall" "news",
  .noat "Hall" "now",
  .noat "Hall" "wire",
  .keep "counted",
  .glo "counted",
  .keep "rows_at",
  .glo "rows_at",
  .keep "in_order",
  .glo "in_order",
  .keep "merged",
  .glo "merged",
  .keep "merge",
  .glo "merge",
  .keep "is_digit",
  .glo "is_digit",
  .keep "is_label",
  .glo "is_label",
  .keep "utf8",
  .glo "utf8",
  .keep "is_chord",
  .glo "is_chord",
  .keep "all_differ",
  .glo "all_differ"]
def faE6 : List He.Fa := [
  .keep "labels_fit",
  .glo "labels_fit",
  .keep "digits_fit",
  .glo "digits_fit",
  .keep "is_keyboard",
  .glo "is_keyboard",
  .meth "Board" "__init__",
  .meth "Board" "owns",
  .meth "Board" "keys_of",
  .meth "Board" "is_bar",
  .keep "check_of",
  .glo "check_of",
  .keep "ticks_bytes",
  .glo "ticks_bytes",
  .keep "ticks_of",
  .glo "ticks_of",
  .keep "chord_bytes",
  .glo "chord_bytes",
  .keep "chord_of_bodies",
  .glo "chord_of_bodies",
  .keep "body_of",
  .glo "body_of",
  .keep "ticks_in",
  .glo "ticks_in",
  .keep "chord_in"]
def faE7 : List He.Fa := [
  .glo "chord_in",
  .keep "fault_in",
  .glo "fault_in",
  .keep "fault_told",
  .glo "fault_told",
  .keep "chord_told",
  .glo "chord_told",
  .keep "is_reserved",
  .glo "is_reserved",
  .keep "frame",
  .glo "frame",
  .meth "NumberedLine" "__init__",
  .meth "NumberedLine" "receive",
  .meth "NumberedLine" "enter",
  .meth "NumberedLine" "leave",
  .meth "NumberedLine" "put_escaped",
  .meth "NumberedLine" "put",
  .meth "NumberedLine" "end_frame",
  .meth "Strokes" "__init__",
  .meth "Strokes" "make",
  .meth "Strokes" "reach",
  .meth "Strokes" "press",
  .meth "Strokes" "lift",
  .meth "Strokes" "hand_over",
  .keep "changes_in"]
def faE8 : List He.Fa := [
  .glo "changes_in",
  .keep "fates_of",
  .glo "fates_of",
  .meth "News" "__init__",
  .meth "News" "come",
  .meth "News" "settle",
  .keep "is_outline",
  .glo "is_outline",
  .keep "chord_text",
  .glo "chord_text",
  .keep "outline_text",
  .glo "outline_text",
  .keep "shared_length",
  .glo "shared_length",
  .meth "Part" "__init__",
  .meth "Part" "may_dash",
  .meth "Part" "dash",
  .meth "Part" "marks",
  .meth "Part" "digit_key_marks",
  .meth "Part" "press",
  .meth "Part" "press_mark",
  .keep "read_outline",
  .glo "read_outline",
  .keep "first_byte",
  .glo "first_byte"]
def faE9 : List He.Fa := [
  .keep "packet_of",
  .glo "packet_of",
  .keep "chord_of_packets",
  .glo "chord_of_packets",
  .keep "send",
  .glo "send",
  .meth "PlainLine" "__init__",
  .meth "PlainLine" "receive",
  .meth "PlainLine" "judge",
  .keep "events_fit",
  .glo "events_fit",
  .meth "Hall" "__init__",
  .meth "Hall" "begin",
  .meth "Hall" "policy",
  .meth "Hall" "feed",
  .meth "Hall" "held",
  .meth "Hall" "write",
  .meth "Hall" "read",
  .meth "Hall" "line",
  .meth "Hall" "take",
  .keep "answer_begun",
  .glo "answer_begun",
  .keep "answer",
  .glo "answer",
  .keep "answers"]
def faE10 : List He.Fa := [
  .glo "answers",
  .mkr "Hall",
  .glo "Hall",
  .mkr "Board",
  .glo "Board",
  .mkr "Strokes",
  .glo "Strokes",
  .mkr "News",
  .glo "News",
  .mkr "PlainLine",
  .glo "PlainLine",
  .mkr "Part",
  .glo "Part",
  .mkr "NumberedLine",
  .glo "NumberedLine",
  .glo "SHAPES"]
def faE : List He.Fa := faE0 ++ (faE1 ++ (faE2 ++ (faE3 ++ (faE4 ++ (faE5 ++ (faE6 ++ (faE7 ++ (faE8 ++ (faE9 ++ (faE10))))))))))
def clsE : List Str := ["Board", "NumberedLine", "Strokes", "News", "Part", "PlainLine", "Hall"]
def looseE0 : List Str := [
  "SPACE",
  "BAR_SIGN",
  "DASH",
  "SLASH",
  "DIGIT_ZERO",
  "DIGIT_NINE",
  "DELETE",
  "FIRST_SURROGATE",
  "LAST_SURROGATE",
  "LAST_CHARACTER",
  "MOST_KEYS",
  "SHORTEST_BODY",
  "LONGEST_BODY",
  "TICKS_START",
  "CHORD_START",
  "CHECK_START",
  "CHORD_LENGTH",
  "FIRST_CHECK",
  "POLYNOMIAL",
  "NO_FAULT",
  "TOO_SHORT",
  "WRONG_CHECK",
  "WRONG_TICKS",
  "NO_CHORD_bodies",
  "CHORD"]
def looseE1 : List Str := [
  "OPENING",
  "CLOSING",
  "ESCAPE",
  "TURNED_BIT",
  "NUMBERS_frames",
  "MOST_LOST",
  "TICKS_END_frames",
  "STRAY_frames",
  "CUT_OFF_frames",
  "WRONG_ESCAPE",
  "TOO_LONG",
  "OLD",
  "ALL_UP",
  "FIRST_UP",
  "BY_TIME",
  "MOST_WAITING",
  "BELIEVED",
  "BOUNCED",
  "UNSURE",
  "MOST_CHORDS",
  "OPEN",
  "WITHOUT_BAR",
  "BAR_ALONE",
  "NUMBERS_outlines",
  "FIRST_MARK"]
def looseE2 : List Str := [
  "ODD_MARK",
  "PACKET_LENGTH",
  "STRAY_packets",
  "CUT_OFF_packets",
  "WRONG_ODDNESS",
  "NO_CHORD_packets",
  "TICKS_END_hall",
  "MOST_EVENTS",
  "MOST_TEXT",
  "LAST_WAY",
  "MOST_BOUNCE",
  "MOST_GAP",
  "PLAIN",
  "NUMBERED",
  "BEGIN",
  "POLICY",
  "FEED",
  "HELD",
  "WRITE",
  "READ",
  "MERGE",
  "SEND",
  "FRAME",
  "LINE",
  "SHAPES"]
def looseE3 : List Str := [
  "counted",
  "rows_at",
  "in_order",
  "merged",
  "merge",
  "is_digit",
  "is_label",
  "utf8",
  "is_chord",
  "all_differ",
  "labels_fit",
  "digits_fit",
  "is_keyboard",
  "check_of",
  "ticks_bytes",
  "ticks_of",
  "chord_bytes",
  "chord_of_bodies",
  "body_of",
  "ticks_in",
  "chord_in",
  "fault_in",
  "fault_told",
  "chord_told",
  "is_reserved"]
def looseE4 : List Str := [
  "frame",
  "changes_in",
  "fates_of",
  "is_outline",
  "chord_text",
  "outline_text",
  "shared_length",
  "read_outline",
  "first_byte",
  "packet_of",
  "chord_of_packets",
  "send",
  "events_fit",
  "answer_begun",
  "answer",
  "chord_of",
  "Board",
  "NumberedLine",
  "Strokes",
  "News",
  "Part",
  "PlainLine",
  "Hall"]
def looseE : List Str := looseE0 ++ (looseE1 ++ (looseE2 ++ (looseE3 ++ (looseE4))))
def shapesE : List (Nat × Nat) := [(3, 2), (3, 0), (1, 1), (0, 0), (0, 1), (0, 1), (0, 2), (1, 0), (3, 0), (1, 0), (0, 1)]
theorem fullE (c n k : Nat) (h : PyWrchka.shape (c : Int) = some (n, k)) : shapesE[c]? = some (n, k) := by
  rcases shape_of h with h | h | h | h | h | h | h | h | h | h | h <;> (obtain ⟨rfl, rfl, rfl⟩ := h; rfl)
section
variable {P : Program} {w : World} {K : PySem.W.Frag} {h : Heap} {mg : Str → Option Value}
theorem putE (X : K.In h) (G : h.Ns mainGlobals mg) (c : SaysX clsE shapesE faE fnE K) : ∃ fd, Raw K mg "answers" tAnswers (He.ga K "answers") fd ∧ ∀ base : Heap, Ok P w K mg base 9 "answers" ["calls"] (spAnswers K) (He.ga K "answers") fd := by
  have T : Tx K mg (He.ga K "Board") (He.ga K "NumberedLine") (He.ga K "Strokes") (He.ga K "News") (He.ga K "Part") (He.ga K "PlainLine") (He.ga K "Hall") := ⟨He.int_ok X G (c.fact 0 (f := .int "SPACE" ((32 : Nat) : Int)) rfl),
    He.int_ok X G (c.fact 1 (f := .int "BAR_SIGN" ((35 : Nat) : Int)) rfl),
    He.int_ok X G (c.fact 2 (f := .int "DASH" ((45 : Nat) : Int)) rfl),
    He.int_ok X G (c.fact 3 (f := .int "SLASH" ((47 : Nat) : Int)) rfl),
    He.int_ok X G (c.fact 4 (f := .int "DIGIT_ZERO" ((48 : Nat) : Int)) rfl),
    He.int_ok X G (c.fact 5 (f := .int "DIGIT_NINE" ((57 : Nat) : Int)) rfl),
    He.int_ok X G (c.fact 6 (f := .int "DELETE" ((127 : Nat) : Int)) rfl),
    He.int_ok X G (c.fact 7 (f := .int "FIRST_SURROGATE" ((55296 : Nat) : Int)) rfl),
    He.int_ok X G (c.fact 8 (f := .int "LAST_SURROGATE" ((57343 : Nat) : Int)) rfl),
    He.int_ok X G (c.fact 9 (f := .int "LAST_CHARACTER" ((1114111 : Nat) : Int)) rfl),
    He.int_ok X G (c.fact 10 (f := .int "MOST_KEYS" ((48 : Nat) : Int)) rfl),
    He.int_ok X G (c.fact 11 (f := .int "SHORTEST_BODY" ((10 : Nat) : Int)) rfl),
    He.int_ok X G (c.fact 12 (f := .int "LONGEST_BODY" ((13 : Nat) : Int)) rfl),
    He.int_ok X G (c.fact 13 (f := .int "TICKS_START" ((1 : Nat) : Int)) rfl),
    He.int_ok X G (c.fact 14 (f := .int "CHORD_START" ((8 : Nat) : Int)) rfl),
    He.int_ok X G (c.fact 15 (f := .int "CHECK_START" ((2 : Nat) : Int)) rfl),
    He.int_ok X G (c.fact 16 (f := .int "CHORD_LENGTH" ((6 : Nat) : Int)) rfl),
    He.int_ok X G (c.fact 17 (f := .int "FIRST_CHECK" ((65535 : Nat) : Int)) rfl),
    He.int_ok X G (c.fact 18 (f := .int "POLYNOMIAL" ((69665 : Nat) : Int)) rfl),
    He.int_ok X G (c.fact 19 (f := .int "NO_FAULT" ((0 : Nat) : Int)) rfl),
    He.int_ok X G (c.fact 20 (f := .int "TOO_SHORT" ((5 : Nat) : Int)) rfl),
    He.int_ok X G (c.fact 21 (f := .int "WRONG_CHECK" ((6 : Nat) : Int)) rfl),
    He.int_ok X G (c.fact 22 (f := .int "WRONG_TICKS" ((7 : Nat) : Int)) rfl),
    He.int_ok X G (c.fact 23 (f := .int "NO_CHORD_bodies" ((8 : Nat) : Int)) rfl),
    He.int_ok X G (c.fact 24 (f := .int "CHORD" ((0 : Nat) : Int)) rfl),
    He.int_ok X G (c.fact 25 (f := .int "OPENING" ((2 : Nat) : Int)) rfl),
    He.int_ok X G (c.fact 26 (f := .int "CLOSING" ((3 : Nat) : Int)) rfl),
    He.int_ok X G (c.fact 27 (f := .int "ESCAPE" ((16 : Nat) : Int)) rfl),
    He.int_ok X G (c.fact 28 (f := .int "TURNED_BIT" ((32 : Nat) : Int)) rfl),
    He.int_ok X G (c.fact 29 (f := .int "NUMBERS_frames" ((256 : Nat) : Int)) rfl),
    He.int_ok X G (c.fact 30 (f := .int "MOST_LOST" ((127 : Nat) : Int)) rfl),
    He.int_ok X G (c.fact 31 (f := .int "TICKS_END_frames" ((268435456 : Nat) : Int)) rfl),
    He.int_ok X G (c.fact 32 (f := .int "STRAY_frames" ((1 : Nat) : Int)) rfl),
    He.int_ok X G (c.fact 33 (f := .int "CUT_OFF_frames" ((2 : Nat) : Int)) rfl),
    He.int_ok X G (c.fact 34 (f := .int "WRONG_ESCAPE" ((3 : Nat) : Int)) rfl),
    He.int_ok X G (c.fact 35 (f := .int "TOO_LONG" ((4 : Nat) : Int)) rfl),
    He.int_ok X G (c.fact 36 (f := .int "OLD" ((9 : Nat) : Int)) rfl),
    He.int_ok X G (c.fact 37 (f := .int "ALL_UP" ((0 : Nat) : Int)) rfl),
    He.int_ok X G (c.fact 38 (f := .int "FIRST_UP" ((1 : Nat) : Int)) rfl),
    He.int_ok X G (c.fact 39 (f := .int "BY_TIME" ((2 : Nat) : Int)) rfl),
    He.int_ok X G (c.fact 40 (f := .int "MOST_WAITING" ((1024 : Nat) : Int)) rfl),
    He.int_ok X G (c.fact 41 (f := .int "BELIEVED" ((0 : Nat) : Int)) rfl),
    He.int_ok X G (c.fact 42 (f := .int "BOUNCED" ((1 : Nat) : Int)) rfl),
    He.int_ok X G (c.fact 43 (f := .int "UNSURE" ((2 : Nat) : Int)) rfl),
    He.int_ok X G (c.fact 44 (f := .int "MOST_CHORDS" ((10 : Nat) : Int)) rfl),
    He.int_ok X G (c.fact 45 (f := .int "OPEN" ((0 : Nat) : Int)) rfl),
    He.int_ok X G (c.fact 46 (f := .int "WITHOUT_BAR" ((1 : Nat) : Int)) rfl),
    He.int_ok X G (c.fact 47 (f := .int "BAR_ALONE" ((2 : Nat) : Int)) rfl),
    He.int_ok X G (c.fact 48 (f := .int "NUMBERS_outlines" ((3 : Nat) : Int)) rfl),
    He.int_ok X G (c.fact 49 (f := .int "FIRST_MARK" ((128 : Nat) : Int)) rfl),
    He.int_ok X G (c.fact 50 (f := .int "ODD_MARK" ((64 : Nat) : Int)) rfl),
    He.int_ok X G (c.fact 51 (f := .int "PACKET_LENGTH" ((7 : Nat) : Int)) rfl),
    He.int_ok X G (c.fact 52 (f := .int "STRAY_packets" ((1 : Nat) : Int)) rfl),
    He.int_ok X G (c.fact 53 (f := .int "CUT_OFF_packets" ((2 : Nat) : Int)) rfl),
    He.int_ok X G (c.fact 54 (f := .int "WRONG_ODDNESS" ((3 : Nat) : Int)) rfl),
    He.int_ok X G (c.fact 55 (f := .int "NO_CHORD_packets" ((4 : Nat) : Int)) rfl),
    He.int_ok X G (c.fact 56 (f := .int "TICKS_END_hall" ((1099511627776 : Nat) : Int)) rfl),
    He.int_ok X G (c.fact 57 (f := .int "MOST_EVENTS" ((4096 : Nat) : Int)) rfl),
    He.int_ok X G (c.fact 58 (f := .int "MOST_TEXT" ((4096 : Nat) : Int)) rfl),
    He.int_ok X G (c.fact 59 (f := .int "LAST_WAY" ((2 : Nat) : Int)) rfl),
    He.int_ok X G (c.fact 60 (f := .int "MOST_BOUNCE" ((1000 : Nat) : Int)) rfl),
    He.int_ok X G (c.fact 61 (f := .int "MOST_GAP" ((10000 : Nat) : Int)) rfl),
    He.int_ok X G (c.fact 62 (f := .int "PLAIN" ((0 : Nat) : Int)) rfl),
    He.int_ok X G (c.fact 63 (f := .int "NUMBERED" ((1 : Nat) : Int)) rfl),
    He.int_ok X G (c.fact 64 (f := .int "BEGIN" ((0 : Nat) : Int)) rfl),
    He.int_ok X G (c.fact 65 (f := .int "POLICY" ((1 : Nat) : Int)) rfl),
    He.int_ok X G (c.fact 66 (f := .int "FEED" ((2 : Nat) : Int)) rfl),
    He.int_ok X G (c.fact 67 (f := .int "HELD" ((3 : Nat) : Int)) rfl),
    He.int_ok X G (c.fact 68 (f := .int "WRITE" ((4 : Nat) : Int)) rfl),
    He.int_ok X G (c.fact 69 (f := .int "READ" ((5 : Nat) : Int)) rfl),
    He.int_ok X G (c.fact 70 (f := .int "MERGE" ((6 : Nat) : Int)) rfl),
    He.int_ok X G (c.fact 71 (f := .int "SEND" ((7 : Nat) : Int)) rfl),
    He.int_ok X G (c.fact 72 (f := .int "FRAME" ((8 : Nat) : Int)) rfl),
    He.int_ok X G (c.fact 73 (f := .int "LINE" ((9 : Nat) : Int)) rfl),
    He.free_ok X G (c.fact 74 (f := .free "all") rfl),
    He.free_ok X G (c.fact 75 (f := .free "any") rfl),
    He.free_ok X G (c.fact 76 (f := .free "dict") rfl),
    He.free_ok X G (c.fact 77 (f := .free "enumerate") rfl),
    He.free_ok X G (c.fact 78 (f := .free "len") rfl),
    He.free_ok X G (c.fact 79 (f := .free "list") rfl),
    He.free_ok X G (c.fact 80 (f := .free "max") rfl),
    He.free_ok X G (c.fact 81 (f := .free "range") rfl),
    He.free_ok X G (c.fact 82 (f := .free "reversed") rfl),
    He.free_ok X G (c.fact 83 (f := .free "set") rfl),
    He.free_ok X G (c.fact 84 (f := .free "sum") rfl),
    He.free_ok X G (c.fact 85 (f := .free "zip") rfl),
    He.cls_ok (c.fact 86 (f := .cls "Board") rfl),
    He.noat_ok (c.fact 87 (f := .noat "Board" "size") rfl),
    He.noat_ok (c.fact 88 (f := .noat "Board" "middle_start") rfl),
    He.noat_ok (c.fact 89 (f := .noat "Board" "right_start") rfl),
    He.noat_ok (c.fact 90 (f := .noat "Board" "has_bar") rfl),
    He.noat_ok (c.fact 91 (f := .noat "Board" "labels") rfl),
    He.noat_ok (c.fact 92 (f := .noat "Board" "digits") rfl),
    He.cls_ok (c.fact 93 (f := .cls "NumberedLine") rfl),
    He.noat_ok (c.fact 94 (f := .noat "NumberedLine" "board") rfl),
    He.noat_ok (c.fact 95 (f := .noat "NumberedLine" "place") rfl),
    He.noat_ok (c.fact 96 (f := .noat "NumberedLine" "start") rfl),
    He.noat_ok (c.fact 97 (f := .noat "NumberedLine" "body") rfl),
    He.noat_ok (c.fact 98 (f := .noat "NumberedLine" "escaped") rfl),
    He.noat_ok (c.fact 99 (f := .noat "NumberedLine" "awaited") rfl),
    He.cls_ok (c.fact 100 (f := .cls "Strokes") rfl),
    He.noat_ok (c.fact 101 (f := .noat "Strokes" "way") rfl),
    He.noat_ok (c.fact 102 (f := .noat "Strokes" "gap") rfl),
    He.noat_ok (c.fact 103 (f := .noat "Strokes" "keys_down") rfl),
    He.noat_ok (c.fact 104 (f := .noat "Strokes" "gone_down") rfl),
    He.noat_ok (c.fact 105 (f := .noat "Strokes" "last_down") rfl),
    He.noat_ok (c.fact 106 (f := .noat "Strokes" "made") rfl),
    He.cls_ok (c.fact 107 (f := .cls "News") rfl),
    He.noat_ok (c.fact 108 (f := .noat "News" "bounce") rfl),
    He.noat_ok (c.fact 109 (f := .noat "News" "pressed") rfl),
    He.noat_ok (c.fact 110 (f := .noat "News" "last_ups") rfl),
    He.noat_ok (c.fact 111 (f := .noat "News" "waiting") rfl),
    He.noat_ok (c.fact 112 (f := .noat "News" "strokes") rfl),
    He.cls_ok (c.fact 113 (f := .cls "Part") rfl),
    He.noat_ok (c.fact 114 (f := .noat "Part" "board") rfl),
    He.noat_ok (c.fact 115 (f := .noat "Part" "chord") rfl),
    He.noat_ok (c.fact 116 (f := .noat "Part" "lowest") rfl),
    He.noat_ok (c.fact 117 (f := .noat "Part" "right_open") rfl),
    He.noat_ok (c.fact 118 (f := .noat "Part" "settled") rfl),
    He.noat_ok (c.fact 119 (f := .noat "Part" "complete") rfl),
    He.cls_ok (c.fact 120 (f := .cls "PlainLine") rfl),
    He.noat_ok (c.fact 121 (f := .noat "PlainLine" "board") rfl),
    He.noat_ok (c.fact 122 (f := .noat "PlainLine" "place") rfl),
    He.noat_ok (c.fact 123 (f := .noat "PlainLine" "start") rfl),
    He.noat_ok (c.fact 124 (f := .noat "PlainLine" "packet") rfl),
    He.cls_ok (c.fact 125 (f := .cls "Hall") rfl),
    He.noat_ok (c.fact 126 (f := .noat "Hall" "board") rfl),
    He.noat_ok (c.fact 127 (f := .noat "Hall" "news") rfl),
    He.noat_ok (c.fact 128 (f := .noat "Hall" "now") rfl),
    He.noat_ok (c.fact 129 (f := .noat "Hall" "wire") rfl),
    c.dif 0 1 rfl rfl (by decide),
    c.dif 0 2 rfl rfl (by decide),
    c.dif 0 3 rfl rfl (by decide),
    c.dif 0 4 rfl rfl (by decide),
    c.dif 0 5 rfl rfl (by decide),
    c.dif 0 6 rfl rfl (by decide),
    c.dif 1 2 rfl rfl (by decide),
    c.dif 1 3 rfl rfl (by decide),
    c.dif 1 4 rfl rfl (by decide),
    c.dif 1 5 rfl rfl (by decide),
    c.dif 1 6 rfl rfl (by decide),
    c.dif 2 3 rfl rfl (by decide),
    c.dif 2 4 rfl rfl (by decide),
    c.dif 2 5 rfl rfl (by decide),
    c.dif 2 6 rfl rfl (by decide),
    c.dif 3 4 rfl rfl (by decide),
    c.dif 3 5 rfl rfl (by decide),
    c.dif 3 6 rfl rfl (by decide),
    c.dif 4 5 rfl rfl (by decide),
    c.dif 4 6 rfl rfl (by decide),
    c.dif 5 6 rfl rfl (by decide)⟩
  have tab : ShapeTab K (He.ga K "SHAPES") := c.shapes fullE
  obtain ⟨fd_counted, F_counted⟩ := fn_says c 0 (x := "counted") (qual := "counted") (st := tCounted) rfl (He.keep_ok (c.fact 130 (f := .keep "counted") rfl))
  have D_counted : Raw K mg "counted" tCounted (He.ga K "counted") fd_counted := ⟨F_counted, He.glo_ok X G (c.fact 131 (f := .glo "counted") rfl)⟩
  obtain ⟨fd_rows_at, F_rows_at⟩ := fn_says c 1 (x := "rows_at") (qual := "rows_at") (st := tRowsAt) rfl (He.keep_ok (c.fact 132 (f := .keep "rows_at") rfl))
  have D_rows_at : Raw K mg "rows_at" tRowsAt (He.ga K "rows_at") fd_rows_at := ⟨F_rows_at, He.glo_ok X G (c.fact 133 (f := .glo "rows_at") rfl)⟩
  obtain ⟨fd_in_order, F_in_order⟩ := fn_says c 2 (x := "in_order") (qual := "in_order") (st := tInOrder) rfl (He.keep_ok (c.fact 134 (f := .keep "in_order") rfl))
  have D_in_order : Raw K mg "in_order" tInOrder (He.ga K "in_order") fd_in_order := ⟨F_in_order, He.glo_ok X G (c.fact 135 (f := .glo "in_order") rfl)⟩
  obtain ⟨fd_merged, F_merged⟩ := fn_says c 3 (x := "merged") (qual := "merged") (st := tMerged) rfl (He.keep_ok (c.fact 136 (f := .keep "merged") rfl))
  have D_merged : Raw K mg "merged" tMerged (He.ga K "merged") fd_merged := ⟨F_merged, He.glo_ok X G (c.fact 137 (f := .glo "merged") rfl)⟩
  obtain ⟨fd_merge, F_merge⟩ := fn_says c 4 (x := "merge") (qual := "merge") (st := tMerge) rfl (He.keep_ok (c.fact 138 (f := .keep "merge") rfl))
  have D_merge : Raw K mg "merge" tMerge (He.ga K "merge") fd_merge := ⟨F_merge, He.glo_ok X G (c.fact 139 (f := .glo "merge") rfl)⟩
  obtain ⟨fd_is_digit, F_is_digit⟩ := fn_says c 5 (x := "is_digit") (qual := "is_digit") (st := tIsDigit) rfl (He.keep_ok (c.fact 140 (f := .keep "is_digit") rfl))
  have D_is_digit : Raw K mg "is_digit" tIsDigit (He.ga K "is_digit") fd_is_digit := ⟨F_is_digit, He.glo_ok X G (c.fact 141 (f := .glo "is_digit") rfl)⟩
  obtain ⟨fd_is_label, F_is_label⟩ := fn_says c 6 (x := "is_label") (qual := "is_label") (st := tIsLabel) rfl (He.keep_ok (c.fact 142 (f := .keep "is_label") rfl))
  have D_is_label : Raw K mg "is_label" tIsLabel (He.ga K "is_label") fd_is_label := ⟨F_is_label, He.glo_ok X G (c.fact 143 (f := .glo "is_label") rfl)⟩
  obtain ⟨fd_utf8, F_utf8⟩ := fn_says c 7 (x := "utf8") (qual := "utf8") (st := tUtf8) rfl (He.keep_ok (c.fact 144 (f := .keep "utf8") rfl))
  have D_utf8 : Raw K mg "utf8" tUtf8 (He.ga K "utf8") fd_utf8 := ⟨F_utf8, He.glo_ok X G (c.fact 145 (f := .glo "utf8") rfl)⟩
  obtain ⟨fd_is_chord, F_is_chord⟩ := fn_says c 8 (x := "is_chord") (qual := "is_chord") (st := tIsChord) rfl (He.keep_ok (c.fact 146 (f := .keep "is_chord") rfl))
  have D_is_chord : Raw K mg "is_chord" tIsChord (He.ga K "is_chord") fd_is_chord := ⟨F_is_chord, He.glo_ok X G (c.fact 147 (f := .glo "is_chord") rfl)⟩
  obtain ⟨fd_all_differ, F_all_differ⟩ := fn_says c 9 (x := "all_differ") (qual := "all_differ") (st := tAllDiffer) rfl (He.keep_ok (c.fact 148 (f := .keep "all_differ") rfl))
  have D_all_differ : Raw K mg "all_differ" tAllDiffer (He.ga K "all_differ") fd_all_differ := ⟨F_all_differ, He.glo_ok X G (c.fact 149 (f := .glo "all_differ") rfl)⟩
  obtain ⟨fd_labels_fit, F_labels_fit⟩ := fn_says c 10 (x := "labels_fit") (qual := "labels_fit") (st := tLabelsFit) rfl (He.keep_ok (c.fact 150 (f := .keep "labels_fit") rfl))
  have D_labels_fit : Raw K mg "labels_fit" tLabelsFit (He.ga K "labels_fit") fd_labels_fit := ⟨F_labels_fit, He.glo_ok X G (c.fact 151 (f := .glo "labels_fit") rfl)⟩
  obtain ⟨fd_digits_fit, F_digits_fit⟩ := fn_says c 11 (x := "digits_fit") (qual := "digits_fit") (st := tDigitsFit) rfl (He.keep_ok (c.fact 152 (f := .keep "digits_fit") rfl))
  have D_digits_fit : Raw K mg "digits_fit" tDigitsFit (He.ga K "digits_fit") fd_digits_fit := ⟨F_digits_fit, He.glo_ok X G (c.fact 153 (f := .glo "digits_fit") rfl)⟩
  obtain ⟨fd_is_keyboard, F_is_keyboard⟩ := fn_says c 12 (x := "is_keyboard") (qual := "is_keyboard") (st := tIsKeyboard) rfl (He.keep_ok (c.fact 154 (f := .keep "is_keyboard") rfl))
  have D_is_keyboard : Raw K mg "is_keyboard" tIsKeyboard (He.ga K "is_keyboard") fd_is_keyboard := ⟨F_is_keyboard, He.glo_ok X G (c.fact 155 (f := .glo "is_keyboard") rfl)⟩
  obtain ⟨fd_Board_init, F_Board_init⟩ := fn_says c 13 (x := "__init__") (qual := "Board.__init__") (st := tBoardInit) rfl (He.meth_ok (c.fact 156 (f := .meth "Board" "__init__") rfl)).kp
  obtain ⟨fd_Board_owns, F_Board_owns⟩ := fn_says c 14 (x := "owns") (qual := "Board.owns") (st := tBoardOwns) rfl (He.meth_ok (c.fact 157 (f := .meth "Board" "owns") rfl)).kp
  have D_Board_owns : RawM K (He.ga K "Board") "owns" "Board.owns" tBoardOwns (He.ma K (He.ga K "Board") "owns") fd_Board_owns := ⟨F_Board_owns, He.meth_ok (c.fact 157 (f := .meth "Board" "owns") rfl)⟩
  obtain ⟨fd_Board_keys_of, F_Board_keys_of⟩ := fn_says c 15 (x := "keys_of") (qual := "Board.keys_of") (st := tBoardKeysOf) rfl (He.meth_ok (c.fact 158 (f := .meth "Board" "keys_of") rfl)).kp
  have D_Board_keys_of : RawM K (He.ga K "Board") "keys_of" "Board.keys_of" tBoardKeysOf (He.ma K (He.ga K "Board") "keys_of") fd_Board_keys_of := ⟨F_Board_keys_of, He.meth_ok (c.fact 158 (f := .meth "Board" "keys_of") rfl)⟩
  obtain ⟨fd_Board_is_bar, F_Board_is_bar⟩ := fn_says c 16 (x := "is_bar") (qual := "Board.is_bar") (st := tBoardIsBar) rfl (He.meth_ok (c.fact 159 (f := .meth "Board" "is_bar") rfl)).kp
  have D_Board_is_bar : RawM K (He.ga K "Board") "is_bar" "Board.is_bar" tBoardIsBar (He.ma K (He.ga K "Board") "is_bar") fd_Board_is_bar := ⟨F_Board_is_bar, He.meth_ok (c.fact 159 (f := .meth "Board" "is_bar") rfl)⟩
  obtain ⟨fd_check_of, F_check_of⟩ := fn_says c 17 (x := "check_of") (qual := "check_of") (st := tCheckOf) rfl (He.keep_ok (c.fact 160 (f := .keep "check_of") rfl))
  have D_check_of : Raw K mg "check_of" tCheckOf (He.ga K "check_of") fd_check_of := ⟨F_check_of, He.glo_ok X G (c.fact 161 (f := .glo "check_of") rfl)⟩
  obtain ⟨fd_ticks_bytes, F_ticks_bytes⟩ := fn_says c 18 (x := "ticks_bytes") (qual := "ticks_bytes") (st := tTicksBytes) rfl (He.keep_ok (c.fact 162 (f := .keep "ticks_bytes") rfl))
  have D_ticks_bytes : Raw K mg "ticks_bytes" tTicksBytes (He.ga K "ticks_bytes") fd_ticks_bytes := ⟨F_ticks_bytes, He.glo_ok X G (c.fact 163 (f := .glo "ticks_bytes") rfl)⟩
  obtain ⟨fd_ticks_of, F_ticks_of⟩ := fn_says c 19 (x := "ticks_of") (qual := "ticks_of") (st := tTicksOf) rfl (He.keep_ok (c.fact 164 (f := .keep "ticks_of") rfl))
  have D_ticks_of : Raw K mg "ticks_of" tTicksOf (He.ga K "ticks_of") fd_ticks_of := ⟨F_ticks_of, He.glo_ok X G (c.fact 165 (f := .glo "ticks_of") rfl)⟩
  obtain ⟨fd_chord_bytes, F_chord_bytes⟩ := fn_says c 20 (x := "chord_bytes") (qual := "chord_bytes") (st := tChordBytes) rfl (He.keep_ok (c.fact 166 (f := .keep "chord_bytes") rfl))
  have D_chord_bytes : Raw K mg "chord_bytes" tChordBytes (He.ga K "chord_bytes") fd_chord_bytes := ⟨F_chord_bytes, He.glo_ok X G (c.fact 167 (f := .glo "chord_bytes") rfl)⟩
  obtain ⟨fd_chord_of_bodies, F_chord_of_bodies⟩ := fn_says c 21 (x := "chord_of") (qual := "chord_of") (st := tChordOfBodies) rfl (He.keep_ok (c.fact 168 (f := .keep "chord_of_bodies") rfl))
  have D_chord_of_bodies : RawA K mg "chord_of_bodies" "chord_of" tChordOfBodies (He.ga K "chord_of_bodies") fd_chord_of_bodies := ⟨F_chord_of_bodies, He.glo_ok X G (c.fact 169 (f := .glo "chord_of_bodies") rfl)⟩
  obtain ⟨fd_body_of, F_body_of⟩ := fn_says c 22 (x := "body_of") (qual := "body_of") (st := tBodyOf) rfl (He.keep_ok (c.fact 170 (f := .keep "body_of") rfl))
  have D_body_of : Raw K mg "body_of" tBodyOf (He.ga K "body_of") fd_body_of := ⟨F_body_of, He.glo_ok X G (c.fact 171 (f := .glo "body_of") rfl)⟩
  obtain ⟨fd_ticks_in, F_ticks_in⟩ := fn_says c 23 (x := "ticks_in") (qual := "ticks_in") (st := tTicksIn) rfl (He.keep_ok (c.fact 172 (f := .keep "ticks_in") rfl))
  have D_ticks_in : Raw K mg "ticks_in" tTicksIn (He.ga K "ticks_in") fd_ticks_in := ⟨F_ticks_in, He.glo_ok X G (c.fact 173 (f := .glo "ticks_in") rfl)⟩
  obtain ⟨fd_chord_in, F_chord_in⟩ := fn_says c 24 (x := "chord_in") (qual := "chord_in") (st := tChordIn) rfl (He.keep_ok (c.fact 174 (f := .keep "chord_in") rfl))
  have D_chord_in : Raw K mg "chord_in" tChordIn (He.ga K "chord_in") fd_chord_in := ⟨F_chord_in, He.glo_ok X G (c.fact 175 (f := .glo "chord_in") rfl)⟩
  obtain ⟨fd_fault_in, F_fault_in⟩ := fn_says c 25 (x := "fault_in") (qual := "fault_in") (st := tFaultIn) rfl (He.keep_ok (c.fact 176 (f := .keep "fault_in") rfl))
  have D_fault_in : Raw K mg "fault_in" tFaultIn (He.ga K "fault_in") fd_fault_in := ⟨F_fault_in, He.glo_ok X G (c.fact 177 (f := .glo "fault_in") rfl)⟩
  obtain ⟨fd_fault_told, F_fault_told⟩ := fn_says c 26 (x := "fault_told") (qual := "fault_told") (st := tFaultTold) rfl (He.keep_ok (c.fact 178 (f := .keep "fault_told") rfl))
  have D_fault_told : Raw K mg "fault_told" tFaultTold (He.ga K "fault_told") fd_fault_told := ⟨F_fault_told, He.glo_ok X G (c.fact 179 (f := .glo "fault_told") rfl)⟩
  obtain ⟨fd_chord_told, F_chord_told⟩ := fn_says c 27 (x := "chord_told") (qual := "chord_told") (st := tChordTold) rfl (He.keep_ok (c.fact 180 (f := .keep "chord_told") rfl))
  have D_chord_told : Raw K mg "chord_told" tChordTold (He.ga K "chord_told") fd_chord_told := ⟨F_chord_told, He.glo_ok X G (c.fact 181 (f := .glo "chord_told") rfl)⟩
  obtain ⟨fd_is_reserved, F_is_reserved⟩ := fn_says c 28 (x := "is_reserved") (qual := "is_reserved") (st := tIsReserved) rfl (He.keep_ok (c.fact 182 (f := .keep "is_reserved") rfl))
  have D_is_reserved : Raw K mg "is_reserved" tIsReserved (He.ga K "is_reserved") fd_is_reserved := ⟨F_is_reserved, He.glo_ok X G (c.fact 183 (f := .glo "is_reserved") rfl)⟩
  obtain ⟨fd_frame, F_frame⟩ := fn_says c 29 (x := "frame") (qual := "frame") (st := tFrame) rfl (He.keep_ok (c.fact 184 (f := .keep "frame") rfl))
  have D_frame : Raw K mg "frame" tFrame (He.ga K "frame") fd_frame := ⟨F_frame, He.glo_ok X G (c.fact 185 (f := .glo "frame") rfl)⟩
  obtain ⟨fd_NumberedLine_init, F_NumberedLine_init⟩ := fn_says c 30 (x := "__init__") (qual := "NumberedLine.__init__") (st := tNumberedLineInit) rfl (He.meth_ok (c.fact 186 (f := .meth "NumberedLine" "__init__") rfl)).kp
  obtain ⟨fd_NumberedLine_receive, F_NumberedLine_receive⟩ := fn_says c 31 (x := "receive") (qual := "NumberedLine.receive") (st := tNumberedLineReceive) rfl (He.meth_ok (c.fact 187 (f := .meth "NumberedLine" "receive") rfl)).kp
  have D_NumberedLine_receive : RawM K (He.ga K "NumberedLine") "receive" "NumberedLine.receive" tNumberedLineReceive (He.ma K (He.ga K "NumberedLine") "receive") fd_NumberedLine_receive := ⟨F_NumberedLine_receive, He.meth_ok (c.fact 187 (f := .meth "NumberedLine" "receive") rfl)⟩
  obtain ⟨fd_NumberedLine_enter, F_NumberedLine_enter⟩ := fn_says c 32 (x := "enter") (qual := "NumberedLine.enter") (st := tNumberedLineEnter) rfl (He.meth_ok (c.fact 188 (f := .meth "NumberedLine" "enter") rfl)).kp
  have D_NumberedLine_enter : RawM K (He.ga K "NumberedLine") "enter" "NumberedLine.enter" tNumberedLineEnter (He.ma K (He.ga K "NumberedLine") "enter") fd_NumberedLine_enter := ⟨F_NumberedLine_enter, He.meth_ok (c.fact 188 (f := .meth "NumberedLine" "enter") rfl)⟩
  obtain ⟨fd_NumberedLine_leave, F_NumberedLine_leave⟩ := fn_says c 33 (x := "leave") (qual := "NumberedLine.leave") (st := tNumberedLineLeave) rfl (He.meth_ok (c.fact 189 (f := .meth "NumberedLine" "leave") rfl)).kp
  have D_NumberedLine_leave : RawM K (He.ga K "NumberedLine") "leave" "NumberedLine.leave" tNumberedLineLeave (He.ma K (He.ga K "NumberedLine") "leave") fd_NumberedLine_leave := ⟨F_NumberedLine_leave, He.meth_ok (c.fact 189 (f := .meth "NumberedLine" "leave") rfl)⟩
  obtain ⟨fd_NumberedLine_put_escaped, F_NumberedLine_put_escaped⟩ := fn_says c 34 (x := "put_escaped") (qual := "NumberedLine.put_escaped") (st := tNumberedLinePutEscaped) rfl (He.meth_ok (c.fact 190 (f := .meth "NumberedLine" "put_escaped") rfl)).kp
  have D_NumberedLine_put_escaped : RawM K (He.ga K "NumberedLine") "put_escaped" "NumberedLine.put_escaped" tNumberedLinePutEscaped (He.ma K (He.ga K "NumberedLine") "put_escaped") fd_NumberedLine_put_escaped := ⟨F_NumberedLine_put_escaped, He.meth_ok (c.fact 190 (f := .meth "NumberedLine" "put_escaped") rfl)⟩
  obtain ⟨fd_NumberedLine_put, F_NumberedLine_put⟩ := fn_says c 35 (x := "put") (qual := "NumberedLine.put") (st := tNumberedLinePut) rfl (He.meth_ok (c.fact 191 (f := .meth "NumberedLine" "put") rfl)).kp
  have D_NumberedLine_put : RawM K (He.ga K "NumberedLine") "put" "NumberedLine.put" tNumberedLinePut (He.ma K (He.ga K "NumberedLine") "put") fd_NumberedLine_put := ⟨F_NumberedLine_put, He.meth_ok (c.fact 191 (f := .meth "NumberedLine" "put") rfl)⟩
  obtain ⟨fd_NumberedLine_end_frame, F_NumberedLine_end_frame⟩ := fn_says c 36 (x := "end_frame") (qual := "NumberedLine.end_frame") (st := tNumberedLineEndFrame) rfl (He.meth_ok (c.fact 192 (f := .meth "NumberedLine" "end_frame") rfl)).kp
  have D_NumberedLine_end_frame : RawM K (He.ga K "NumberedLine") "end_frame" "NumberedLine.end_frame" tNumberedLineEndFrame (He.ma K (He.ga K "NumberedLine") "end_frame") fd_NumberedLine_end_frame := ⟨F_NumberedLine_end_frame, He.meth_ok (c.fact 192 (f := .meth "NumberedLine" "end_frame") rfl)⟩
  obtain ⟨fd_Strokes_init, F_Strokes_init⟩ := fn_says c 37 (x := "__init__") (qual := "Strokes.__init__") (st := tStrokesInit) rfl (He.meth_ok (c.fact 193 (f := .meth "Strokes" "__init__") rfl)).kp
  obtain ⟨fd_Strokes_make, F_Strokes_make⟩ := fn_says c 38 (x := "make") (qual := "Strokes.make") (st := tStrokesMake) rfl (He.meth_ok (c.fact 194 (f := .meth "Strokes" "make") rfl)).kp
  have D_Strokes_make : RawM K (He.ga K "Strokes") "make" "Strokes.make" tStrokesMake (He.ma K (He.ga K "Strokes") "make") fd_Strokes_make := ⟨F_Strokes_make, He.meth_ok (c.fact 194 (f := .meth "Strokes" "make") rfl)⟩
  obtain ⟨fd_Strokes_reach, F_Strokes_reach⟩ := fn_says c 39 (x := "reach") (qual := "Strokes.reach") (st := tStrokesReach) rfl (He.meth_ok (c.fact 195 (f := .meth "Strokes" "reach") rfl)).kp
  have D_Strokes_reach : RawM K (He.ga K "Strokes") "reach" "Strokes.reach" tStrokesReach (He.ma K (He.ga K "Strokes") "reach") fd_Strokes_reach := ⟨F_Strokes_reach, He.meth_ok (c.fact 195 (f := .meth "Strokes" "reach") rfl)⟩
  obtain ⟨fd_Strokes_press, F_Strokes_press⟩ := fn_says c 40 (x := "press") (qual := "Strokes.press") (st := tStrokesPress) rfl (He.meth_ok (c.fact 196 (f := .meth "Strokes" "press") rfl)).kp
  have D_Strokes_press : RawM K (He.ga K "Strokes") "press" "Strokes.press" tStrokesPress (He.ma K (He.ga K "Strokes") "press") fd_Strokes_press := ⟨F_Strokes_press, He.meth_ok (c.fact 196 (f := .meth "Strokes" "press") rfl)⟩
  obtain ⟨fd_Strokes_lift, F_Strokes_lift⟩ := fn_says c 41 (x := "lift") (qual := "Strokes.lift") (st := tStrokesLift) rfl (He.meth_ok (c.fact 197 (f := .meth "Strokes" "lift") rfl)).kp
  have D_Strokes_lift : RawM K (He.ga K "Strokes") "lift" "Strokes.lift" tStrokesLift (He.ma K (He.ga K "Strokes") "lift") fd_Strokes_lift := ⟨F_Strokes_lift, He.meth_ok (c.fact 197 (f := .meth "Strokes" "lift") rfl)⟩
  obtain ⟨fd_Strokes_hand_over, F_Strokes_hand_over⟩ := fn_says c 42 (x := "hand_over") (qual := "Strokes.hand_over") (st := tStrokesHandOver) rfl (He.meth_ok (c.fact 198 (f := .meth "Strokes" "hand_over") rfl)).kp
  have D_Strokes_hand_over : RawM K (He.ga K "Strokes") "hand_over" "Strokes.hand_over" tStrokesHandOver (He.ma K (He.ga K "Strokes") "hand_over") fd_Strokes_hand_over := ⟨F_Strokes_hand_over, He.meth_ok (c.fact 198 (f := .meth "Strokes" "hand_over") rfl)⟩
  obtain ⟨fd_changes_in, F_changes_in⟩ := fn_says c 43 (x := "changes_in") (qual := "changes_in") (st := tChangesIn) rfl (He.keep_ok (c.fact 199 (f := .keep "changes_in") rfl))
  have D_changes_in : Raw K mg "changes_in" tChangesIn (He.ga K "changes_in") fd_changes_in := ⟨F_changes_in, He.glo_ok X G (c.fact 200 (f := .glo "changes_in") rfl)⟩
  obtain ⟨fd_fates_of, F_fates_of⟩ := fn_says c 44 (x := "fates_of") (qual := "fates_of") (st := tFatesOf) rfl (He.keep_ok (c.fact 201 (f := .keep "fates_of") rfl))
  have D_fates_of : Raw K mg "fates_of" tFatesOf (He.ga K "fates_of") fd_fates_of := ⟨F_fates_of, He.glo_ok X G (c.fact 202 (f := .glo "fates_of") rfl)⟩
  obtain ⟨fd_News_init, F_News_init⟩ := fn_says c 45 (x := "__init__") (qual := "News.__init__") (st := tNewsInit) rfl (He.meth_ok (c.fact 203 (f := .meth "News" "__init__") rfl)).kp
  obtain ⟨fd_News_come, F_News_come⟩ := fn_says c 46 (x := "come") (qual := "News.come") (st := tNewsCome) rfl (He.meth_ok (c.fact 204 (f := .meth "News" "come") rfl)).kp
  have D_News_come : RawM K (He.ga K "News") "come" "News.come" tNewsCome (He.ma K (He.ga K "News") "come") fd_News_come := ⟨F_News_come, He.meth_ok (c.fact 204 (f := .meth "News" "come") rfl)⟩
  obtain ⟨fd_News_settle, F_News_settle⟩ := fn_says c 47 (x := "settle") (qual := "News.settle") (st := tNewsSettle) rfl (He.meth_ok (c.fact 205 (f := .meth "News" "settle") rfl)).kp
  have D_News_settle : RawM K (He.ga K "News") "settle" "News.settle" tNewsSettle (He.ma K (He.ga K "News") "settle") fd_News_settle := ⟨F_News_settle, He.meth_ok (c.fact 205 (f := .meth "News" "settle") rfl)⟩
  obtain ⟨fd_is_outline, F_is_outline⟩ := fn_says c 48 (x := "is_outline") (qual := "is_outline") (st := tIsOutline) rfl (He.keep_ok (c.fact 206 (f := .keep "is_outline") rfl))
  have D_is_outline : Raw K mg "is_outline" tIsOutline (He.ga K "is_outline") fd_is_outline := ⟨F_is_outline, He.glo_ok X G (c.fact 207 (f := .glo "is_outline") rfl)⟩
  obtain ⟨fd_chord_text, F_chord_text⟩ := fn_says c 49 (x := "chord_text") (qual := "chord_text") (st := tChordText) rfl (He.keep_ok (c.fact 208 (f := .keep "chord_text") rfl))
  have D_chord_text : Raw K mg "chord_text" tChordText (He.ga K "chord_text") fd_chord_text := ⟨F_chord_text, He.glo_ok X G (c.fact 209 (f := .glo "chord_text") rfl)⟩
  obtain ⟨fd_outline_text, F_outline_text⟩ := fn_says c 50 (x := "outline_text") (qual := "outline_text") (st := tOutlineText) rfl (He.keep_ok (c.fact 210 (f := .keep "outline_text") rfl))
  have D_outline_text : Raw K mg "outline_text" tOutlineText (He.ga K "outline_text") fd_outline_text := ⟨F_outline_text, He.glo_ok X G (c.fact 211 (f := .glo "outline_text") rfl)⟩
  obtain ⟨fd_shared_length, F_shared_length⟩ := fn_says c 51 (x := "shared_length") (qual := "shared_length") (st := tSharedLength) rfl (He.keep_ok (c.fact 212 (f := .keep "shared_length") rfl))
  have D_shared_length : Raw K mg "shared_length" tSharedLength (He.ga K "shared_length") fd_shared_length := ⟨F_shared_length, He.glo_ok X G (c.fact 213 (f := .glo "shared_length") rfl)⟩
  obtain ⟨fd_Part_init, F_Part_init⟩ := fn_says c 52 (x := "__init__") (qual := "Part.__init__") (st := tPartInit) rfl (He.meth_ok (c.fact 214 (f := .meth "Part" "__init__") rfl)).kp
  obtain ⟨fd_Part_may_dash, F_Part_may_dash⟩ := fn_says c 53 (x := "may_dash") (qual := "Part.may_dash") (st := tPartMayDash) rfl (He.meth_ok (c.fact 215 (f := .meth "Part" "may_dash") rfl)).kp
  have D_Part_may_dash : RawM K (He.ga K "Part") "may_dash" "Part.may_dash" tPartMayDash (He.ma K (He.ga K "Part") "may_dash") fd_Part_may_dash := ⟨F_Part_may_dash, He.meth_ok (c.fact 215 (f := .meth "Part" "may_dash") rfl)⟩
  obtain ⟨fd_Part_dash, F_Part_dash⟩ := fn_says c 54 (x := "dash") (qual := "Part.dash") (st := tPartDash) rfl (He.meth_ok (c.fact 216 (f := .meth "Part" "dash") rfl)).kp
  have D_Part_dash : RawM K (He.ga K "Part") "dash" "Part.dash" tPartDash (He.ma K (He.ga K "Part") "dash") fd_Part_dash := ⟨F_Part_dash, He.meth_ok (c.fact 216 (f := .meth "Part" "dash") rfl)⟩
  obtain ⟨fd_Part_marks, F_Part_marks⟩ := fn_says c 55 (x := "marks") (qual := "Part.marks") (st := tPartMarks) rfl (He.meth_ok (c.fact 217 (f := .meth "Part" "marks") rfl)).kp
  have D_Part_marks : RawM K (He.ga K "Part") "marks" "Part.marks" tPartMarks (He.ma K (He.ga K "Part") "marks") fd_Part_marks := ⟨F_Part_marks, He.meth_ok (c.fact 217 (f := .meth "Part" "marks") rfl)⟩
  obtain ⟨fd_Part_digit_key_marks, F_Part_digit_key_marks⟩ := fn_says c 56 (x := "digit_key_marks") (qual := "Part.digit_key_marks") (st := tPartDigitKeyMarks) rfl (He.meth_ok (c.fact 218 (f := .meth "Part" "digit_key_marks") rfl)).kp
  have D_Part_digit_key_marks : RawM K (He.ga K "Part") "digit_key_marks" "Part.digit_key_marks" tPartDigitKeyMarks (He.ma K (He.ga K "Part") "digit_key_marks") fd_Part_digit_key_marks := ⟨F_Part_digit_key_marks, He.meth_ok (c.fact 218 (f := .meth "Part" "digit_key_marks") rfl)⟩
  obtain ⟨fd_Part_press, F_Part_press⟩ := fn_says c 57 (x := "press") (qual := "Part.press") (st := tPartPress) rfl (He.meth_ok (c.fact 219 (f := .meth "Part" "press") rfl)).kp
  have D_Part_press : RawM K (He.ga K "Part") "press" "Part.press" tPartPress (He.ma K (He.ga K "Part") "press") fd_Part_press := ⟨F_Part_press, He.meth_ok (c.fact 219 (f := .meth "Part" "press") rfl)⟩
  obtain ⟨fd_Part_press_mark, F_Part_press_mark⟩ := fn_says c 58 (x := "press_mark") (qual := "Part.press_mark") (st := tPartPressMark) rfl (He.meth_ok (c.fact 220 (f := .meth "Part" "press_mark") rfl)).kp
  have D_Part_press_mark : RawM K (He.ga K "Part") "press_mark" "Part.press_mark" tPartPressMark (He.ma K (He.ga K "Part") "press_mark") fd_Part_press_mark := ⟨F_Part_press_mark, He.meth_ok (c.fact 220 (f := .meth "Part" "press_mark") rfl)⟩
  obtain ⟨fd_read_outline, F_read_outline⟩ := fn_says c 59 (x := "read_outline") (qual := "read_outline") (st := tReadOutline) rfl (He.keep_ok (c.fact 221 (f := .keep "read_outline") rfl))
  have D_read_outline : Raw K mg "read_outline" tReadOutline (He.ga K "read_outline") fd_read_outline := ⟨F_read_outline, He.glo_ok X G (c.fact 222 (f := .glo "read_outline") rfl)⟩
  obtain ⟨fd_first_byte, F_first_byte⟩ := fn_says c 60 (x := "first_byte") (qual := "first_byte") (st := tFirstByte) rfl (He.keep_ok (c.fact 223 (f := .keep "first_byte") rfl))
  have D_first_byte : Raw K mg "first_byte" tFirstByte (He.ga K "first_byte") fd_first_byte := ⟨F_first_byte, He.glo_ok X G (c.fact 224 (f := .glo "first_byte") rfl)⟩
  obtain ⟨fd_packet_of, F_packet_of⟩ := fn_says c 61 (x := "packet_of") (qual := "packet_of") (st := tPacketOf) rfl (He.keep_ok (c.fact 225 (f := .keep "packet_of") rfl))
  have D_packet_of : Raw K mg "packet_of" tPacketOf (He.ga K "packet_of") fd_packet_of := ⟨F_packet_of, He.glo_ok X G (c.fact 226 (f := .glo "packet_of") rfl)⟩
  obtain ⟨fd_chord_of_packets, F_chord_of_packets⟩ := fn_says c 62 (x := "chord_of") (qual := "chord_of") (st := tChordOfPackets) rfl (He.keep_ok (c.fact 227 (f := .keep "chord_of_packets") rfl))
  have D_chord_of_packets : RawA K mg "chord_of_packets" "chord_of" tChordOfPackets (He.ga K "chord_of_packets") fd_chord_of_packets := ⟨F_chord_of_packets, He.glo_ok X G (c.fact 228 (f := .glo "chord_of_packets") rfl)⟩
  obtain ⟨fd_send, F_send⟩ := fn_says c 63 (x := "send") (qual := "send") (st := tSend) rfl (He.keep_ok (c.fact 229 (f := .keep "send") rfl))
  have D_send : Raw K mg "send" tSend (He.ga K "send") fd_send := ⟨F_send, He.glo_ok X G (c.fact 230 (f := .glo "send") rfl)⟩
  obtain ⟨fd_PlainLine_init, F_PlainLine_init⟩ := fn_says c 64 (x := "__init__") (qual := "PlainLine.__init__") (st := tPlainLineInit) rfl (He.meth_ok (c.fact 231 (f := .meth "PlainLine" "__init__") rfl)).kp
  obtain ⟨fd_PlainLine_receive, F_PlainLine_receive⟩ := fn_says c 65 (x := "receive") (qual := "PlainLine.receive") (st := tPlainLineReceive) rfl (He.meth_ok (c.fact 232 (f := .meth "PlainLine" "receive") rfl)).kp
  have D_PlainLine_receive : RawM K (He.ga K "PlainLine") "receive" "PlainLine.receive" tPlainLineReceive (He.ma K (He.ga K "PlainLine") "receive") fd_PlainLine_receive := ⟨F_PlainLine_receive, He.meth_ok (c.fact 232 (f := .meth "PlainLine" "receive") rfl)⟩
  obtain ⟨fd_PlainLine_judge, F_PlainLine_judge⟩ := fn_says c 66 (x := "judge") (qual := "PlainLine.judge") (st := tPlainLineJudge) rfl (He.meth_ok (c.fact 233 (f := .meth "PlainLine" "judge") rfl)).kp
  have D_PlainLine_judge : RawM K (He.ga K "PlainLine") "judge" "PlainLine.judge" tPlainLineJudge (He.ma K (He.ga K "PlainLine") "judge") fd_PlainLine_judge := ⟨F_PlainLine_judge, He.meth_ok (c.fact 233 (f := .meth "PlainLine" "judge") rfl)⟩
  obtain ⟨fd_events_fit, F_events_fit⟩ := fn_says c 67 (x := "events_fit") (qual := "events_fit") (st := tEventsFit) rfl (He.keep_ok (c.fact 234 (f := .keep "events_fit") rfl))
  have D_events_fit : Raw K mg "events_fit" tEventsFit (He.ga K "events_fit") fd_events_fit := ⟨F_events_fit, He.glo_ok X G (c.fact 235 (f := .glo "events_fit") rfl)⟩
  obtain ⟨fd_Hall_init, F_Hall_init⟩ := fn_says c 68 (x := "__init__") (qual := "Hall.__init__") (st := tHallInit) rfl (He.meth_ok (c.fact 236 (f := .meth "Hall" "__init__") rfl)).kp
  obtain ⟨fd_Hall_begin, F_Hall_begin⟩ := fn_says c 69 (x := "begin") (qual := "Hall.begin") (st := tHallBegin) rfl (He.meth_ok (c.fact 237 (f := .meth "Hall" "begin") rfl)).kp
  have D_Hall_begin : RawM K (He.ga K "Hall") "begin" "Hall.begin" tHallBegin (He.ma K (He.ga K "Hall") "begin") fd_Hall_begin := ⟨F_Hall_begin, He.meth_ok (c.fact 237 (f := .meth "Hall" "begin") rfl)⟩
  obtain ⟨fd_Hall_policy, F_Hall_policy⟩ := fn_says c 70 (x := "policy") (qual := "Hall.policy") (st := tHallPolicy) rfl (He.meth_ok (c.fact 238 (f := .meth "Hall" "policy") rfl)).kp
  have D_Hall_policy : RawM K (He.ga K "Hall") "policy" "Hall.policy" tHallPolicy (He.ma K (He.ga K "Hall") "policy") fd_Hall_policy := ⟨F_Hall_policy, He.meth_ok (c.fact 238 (f := .meth "Hall" "policy") rfl)⟩
  obtain ⟨fd_Hall_feed, F_Hall_feed⟩ := fn_says c 71 (x := "feed") (qual := "Hall.feed") (st := tHallFeed) rfl (He.meth_ok (c.fact 239 (f := .meth "Hall" "feed") rfl)).kp
  have D_Hall_feed : RawM K (He.ga K "Hall") "feed" "Hall.feed" tHallFeed (He.ma K (He.ga K "Hall") "feed") fd_Hall_feed := ⟨F_Hall_feed, He.meth_ok (c.fact 239 (f := .meth "Hall" "feed") rfl)⟩
  obtain ⟨fd_Hall_held, F_Hall_held⟩ := fn_says c 72 (x := "held") (qual := "Hall.held") (st := tHallHeld) rfl (He.meth_ok (c.fact 240 (f := .meth "Hall" "held") rfl)).kp
  have D_Hall_held : RawM K (He.ga K "Hall") "held" "Hall.held" tHallHeld (He.ma K (He.ga K "Hall") "held") fd_Hall_held := ⟨F_Hall_held, He.meth_ok (c.fact 240 (f := .meth "Hall" "held") rfl)⟩
  obtain ⟨fd_Hall_write, F_Hall_write⟩ := fn_says c 73 (x := "write") (qual := "Hall.write") (st := tHallWrite) rfl (He.meth_ok (c.fact 241 (f := .meth "Hall" "write") rfl)).kp
  have D_Hall_write : RawM K (He.ga K "Hall") "write" "Hall.write" tHallWrite (He.ma K (He.ga K "Hall") "write") fd_Hall_write := ⟨F_Hall_write, He.meth_ok (c.fact 241 (f := .meth "Hall" "write") rfl)⟩
  obtain ⟨fd_Hall_read, F_Hall_read⟩ := fn_says c 74 (x := "read") (qual := "Hall.read") (st := tHallRead) rfl (He.meth_ok (c.fact 242 (f := .meth "Hall" "read") rfl)).kp
  have D_Hall_read : RawM K (He.ga K "Hall") "read" "Hall.read" tHallRead (He.ma K (He.ga K "Hall") "read") fd_Hall_read := ⟨F_Hall_read, He.meth_ok (c.fact 242 (f := .meth "Hall" "read") rfl)⟩
  obtain ⟨fd_Hall_line, F_Hall_line⟩ := fn_says c 75 (x := "line") (qual := "Hall.line") (st := tHallLine) rfl (He.meth_ok (c.fact 243 (f := .meth "Hall" "line") rfl)).kp
  have D_Hall_line : RawM K (He.ga K "Hall") "line" "Hall.line" tHallLine (He.ma K (He.ga K "Hall") "line") fd_Hall_line := ⟨F_Hall_line, He.meth_ok (c.fact 243 (f := .meth "Hall" "line") rfl)⟩
  obtain ⟨fd_Hall_take, F_Hall_take⟩ := fn_says c 76 (x := "take") (qual := "Hall.take") (st := tHallTake) rfl (He.meth_ok (c.fact 244 (f := .meth "Hall" "take") rfl)).kp
  have D_Hall_take : RawM K (He.ga K "Hall") "take" "Hall.take" tHallTake (He.ma K (He.ga K "Hall") "take") fd_Hall_take := ⟨F_Hall_take, He.meth_ok (c.fact 244 (f := .meth "Hall" "take") rfl)⟩
  obtain ⟨fd_answer_begun, F_answer_begun⟩ := fn_says c 77 (x := "answer_begun") (qual := "answer_begun") (st := tAnswerBegun) rfl (He.keep_ok (c.fact 245 (f := .keep "answer_begun") rfl))
  have D_answer_begun : Raw K mg "answer_begun" tAnswerBegun (He.ga K "answer_begun") fd_answer_begun := ⟨F_answer_begun, He.glo_ok X G (c.fact 246 (f := .glo "answer_begun") rfl)⟩
  obtain ⟨fd_answer, F_answer⟩ := fn_says c 78 (x := "answer") (qual := "answer") (st := tAnswer) rfl (He.keep_ok (c.fact 247 (f := .keep "answer") rfl))
  have D_answer : Raw K mg "answer" tAnswer (He.ga K "answer") fd_answer := ⟨F_answer, He.glo_ok X G (c.fact 248 (f := .glo "answer") rfl)⟩
  obtain ⟨fd_answers, F_answers⟩ := fn_says c 79 (x := "answers") (qual := "answers") (st := tAnswers) rfl (He.keep_ok (c.fact 249 (f := .keep "answers") rfl))
  have D_answers : Raw K mg "answers" tAnswers (He.ga K "answers") fd_answers := ⟨F_answers, He.glo_ok X G (c.fact 250 (f := .glo "answers") rfl)⟩
  refine ⟨_, D_answers, fun base => ?_⟩
  have G_Hall_init := ok_Hall_init (P := P) (w := w) (base := base) F_Hall_init T
  have G_Hall : OkC P w K mg base _ "Hall" _ _ _ _ _ := ⟨He.mkr_ok (c.fact 251 (f := .mkr "Hall") rfl), G_Hall_init, He.glo_ok X G (c.fact 252 (f := .glo "Hall") rfl), F_Hall_init.binds (ps := ["self"]) fun _ _ _ _ _ _ us hl => match us, hl with | [_], _ => rfl⟩
  have G_rows_at := ok_rows_at (P := P) (w := w) (base := base) D_rows_at T
  have G_counted := ok_counted (P := P) (w := w) (base := base) D_counted T
  have G_is_digit := ok_is_digit (P := P) (w := w) (base := base) D_is_digit T
  have G_is_label := ok_is_label (P := P) (w := w) (base := base) D_is_label T G_is_digit
  have G_all_differ := ok_all_differ (P := P) (w := w) (base := base) D_all_differ T
  have G_labels_fit := ok_labels_fit (P := P) (w := w) (base := base) D_labels_fit T G_is_label G_all_differ
  have G_digits_fit := ok_digits_fit (P := P) (w := w) (base := base) D_digits_fit T G_is_digit G_all_differ
  have G_is_keyboard := ok_is_keyboard (P := P) (w := w) (base := base) D_is_keyboard T G_labels_fit G_digits_fit
  have G_utf8 := ok_utf8 (P := P) (w := w) (base := base) D_utf8
  have G_Board_init := ok_Board_init (P := P) (w := w) (base := base) F_Board_init T G_utf8
  have G_Board : OkC P w K mg base _ "Board" _ _ _ _ _ := ⟨He.mkr_ok (c.fact 253 (f := .mkr "Board") rfl), G_Board_init, He.glo_ok X G (c.fact 254 (f := .glo "Board") rfl), F_Board_init.binds (ps := ["self", "left", "middle", "bar", "labels", "digits"]) fun _ _ _ _ _ _ us hl => match us, hl with | [_, _, _, _, _, _], _ => rfl⟩
  have G_Strokes_init := ok_Strokes_init (P := P) (w := w) (base := base) F_Strokes_init T
  have G_Strokes : OkC P w K mg base _ "Strokes" _ _ _ _ _ := ⟨He.mkr_ok (c.fact 255 (f := .mkr "Strokes") rfl), G_Strokes_init, He.glo_ok X G (c.fact 256 (f := .glo "Strokes") rfl), F_Strokes_init.binds (ps := ["self", "way", "gap"]) fun _ _ _ _ _ _ us hl => match us, hl with | [_, _, _], _ => rfl⟩
  have G_News_init := ok_News_init (P := P) (w := w) (base := base) F_News_init T G_Strokes
  have G_News : OkC P w K mg base _ "News" _ _ _ _ _ := ⟨He.mkr_ok (c.fact 257 (f := .mkr "News") rfl), G_News_init, He.glo_ok X G (c.fact 258 (f := .glo "News") rfl), F_News_init.binds (ps := ["self", "way", "bounce", "gap"]) fun _ _ _ _ _ _ us hl => match us, hl with | [_, _, _, _], _ => rfl⟩
  have G_PlainLine_init := ok_PlainLine_init (P := P) (w := w) (base := base) F_PlainLine_init T
  have G_PlainLine : OkC P w K mg base _ "PlainLine" _ _ _ _ _ := ⟨He.mkr_ok (c.fact 259 (f := .mkr "PlainLine") rfl), G_PlainLine_init, He.glo_ok X G (c.fact 260 (f := .glo "PlainLine") rfl), F_PlainLine_init.binds (ps := ["self", "board"]) fun _ _ _ _ _ _ us hl => match us, hl with | [_, _], _ => rfl⟩
  have G_Hall_begin := ok_Hall_begin (P := P) (w := w) (base := base) D_Hall_begin T G_is_keyboard G_Board G_News G_PlainLine
  have G_in_order := ok_in_order (P := P) (w := w) (base := base) D_in_order T
  have G_merged := ok_merged (P := P) (w := w) (base := base) D_merged T
  have G_merge := ok_merge (P := P) (w := w) (base := base) D_merge T G_in_order G_merged G_counted
  have G_is_chord := ok_is_chord (P := P) (w := w) (base := base) D_is_chord T
  have G_first_byte := ok_first_byte (P := P) (w := w) (base := base) D_first_byte T
  have G_packet_of := ok_packet_of (P := P) (w := w) (base := base) D_packet_of T G_first_byte
  have G_send := ok_send (P := P) (w := w) (base := base) D_send T G_is_chord G_packet_of G_counted
  have G_ticks_bytes := ok_ticks_bytes (P := P) (w := w) (base := base) D_ticks_bytes T
  have G_chord_bytes := ok_chord_bytes (P := P) (w := w) (base := base) D_chord_bytes T
  have G_check_of := ok_check_of (P := P) (w := w) (base := base) D_check_of T
  have G_body_of := ok_body_of (P := P) (w := w) (base := base) D_body_of T G_ticks_bytes G_chord_bytes G_check_of
  have G_is_reserved := ok_is_reserved (P := P) (w := w) (base := base) D_is_reserved T
  have G_frame := ok_frame (P := P) (w := w) (base := base) D_frame T G_is_chord G_body_of G_is_reserved G_counted
  have G_Hall_policy := ok_Hall_policy (P := P) (w := w) (base := base) D_Hall_policy T G_News
  have G_events_fit := ok_events_fit (P := P) (w := w) (base := base) D_events_fit T G_in_order
  have G_changes_in := ok_changes_in (P := P) (w := w) (base := base) D_changes_in T
  have G_fates_of := ok_fates_of (P := P) (w := w) (base := base) D_fates_of T
  have G_Strokes_make := ok_Strokes_make (P := P) (w := w) (base := base) D_Strokes_make T
  have G_Strokes_reach := ok_Strokes_reach (P := P) (w := w) (base := base) D_Strokes_reach T G_Strokes_make
  have G_Strokes_press := ok_Strokes_press (P := P) (w := w) (base := base) D_Strokes_press T G_Strokes_reach
  have G_Strokes_lift := ok_Strokes_lift (P := P) (w := w) (base := base) D_Strokes_lift T G_Strokes_make
  have G_News_settle := ok_News_settle (P := P) (w := w) (base := base) D_News_settle T G_Strokes_press G_Strokes_lift
  have G_Strokes_hand_over := ok_Strokes_hand_over (P := P) (w := w) (base := base) D_Strokes_hand_over T
  have G_News_come := ok_News_come (P := P) (w := w) (base := base) D_News_come T G_changes_in G_fates_of G_News_settle G_Strokes_reach G_Strokes_hand_over
  have G_Hall_feed := ok_Hall_feed (P := P) (w := w) (base := base) D_Hall_feed T G_events_fit G_News_come G_counted
  have G_Hall_held := ok_Hall_held (P := P) (w := w) (base := base) D_Hall_held T
  have G_Board_owns := ok_Board_owns (P := P) (w := w) (base := base) D_Board_owns T G_is_chord
  have G_is_outline := ok_is_outline (P := P) (w := w) (base := base) D_is_outline T G_Board_owns
  have G_Board_keys_of := ok_Board_keys_of (P := P) (w := w) (base := base) D_Board_keys_of T
  have G_Board_is_bar := ok_Board_is_bar (P := P) (w := w) (base := base) D_Board_is_bar T
  have G_chord_text := ok_chord_text (P := P) (w := w) (base := base) D_chord_text T G_Board_keys_of G_Board_is_bar
  have G_outline_text := ok_outline_text (P := P) (w := w) (base := base) D_outline_text T G_chord_text
  have G_Hall_write := ok_Hall_write (P := P) (w := w) (base := base) D_Hall_write T G_is_outline G_counted G_outline_text
  have G_Part_init := ok_Part_init (P := P) (w := w) (base := base) F_Part_init T
  have G_Part : OkC P w K mg base _ "Part" _ _ _ _ _ := ⟨He.mkr_ok (c.fact 261 (f := .mkr "Part") rfl), G_Part_init, He.glo_ok X G (c.fact 262 (f := .glo "Part") rfl), F_Part_init.binds (ps := ["self", "board"]) fun _ _ _ _ _ _ us hl => match us, hl with | [_, _], _ => rfl⟩
  have G_Part_may_dash := ok_Part_may_dash (P := P) (w := w) (base := base) D_Part_may_dash T
  have G_Part_dash := ok_Part_dash (P := P) (w := w) (base := base) D_Part_dash T
  have G_Part_digit_key_marks := ok_Part_digit_key_marks (P := P) (w := w) (base := base) D_Part_digit_key_marks T
  have G_Part_marks := ok_Part_marks (P := P) (w := w) (base := base) D_Part_marks T G_Board_is_bar G_Part_digit_key_marks
  have G_shared_length := ok_shared_length (P := P) (w := w) (base := base) D_shared_length T
  have G_Part_press := ok_Part_press (P := P) (w := w) (base := base) D_Part_press T
  have G_Part_press_mark := ok_Part_press_mark (P := P) (w := w) (base := base) D_Part_press_mark T G_Part_marks G_shared_length G_Part_press
  have G_read_outline := ok_read_outline (P := P) (w := w) (base := base) D_read_outline T G_Part G_Part_may_dash G_Part_dash G_Part_press_mark
  have G_Hall_read := ok_Hall_read (P := P) (w := w) (base := base) D_Hall_read T G_read_outline G_counted
  have G_NumberedLine_init := ok_NumberedLine_init (P := P) (w := w) (base := base) F_NumberedLine_init T
  have G_NumberedLine : OkC P w K mg base _ "NumberedLine" _ _ _ _ _ := ⟨He.mkr_ok (c.fact 263 (f := .mkr "NumberedLine") rfl), G_NumberedLine_init, He.glo_ok X G (c.fact 264 (f := .glo "NumberedLine") rfl), F_NumberedLine_init.binds (ps := ["self", "board"]) fun _ _ _ _ _ _ us hl => match us, hl with | [_, _], _ => rfl⟩
  have G_Hall_line := ok_Hall_line (P := P) (w := w) (base := base) D_Hall_line T G_PlainLine G_NumberedLine
  have G_fault_told := ok_fault_told (P := P) (w := w) (base := base) D_fault_told T
  have G_chord_of_packets := ok_chord_of_packets (P := P) (w := w) (base := base) D_chord_of_packets T
  have G_chord_told := ok_chord_told (P := P) (w := w) (base := base) D_chord_told T
  have G_PlainLine_judge := ok_PlainLine_judge (P := P) (w := w) (base := base) D_PlainLine_judge T G_chord_of_packets G_first_byte G_fault_told G_Board_owns G_chord_told
  have G_PlainLine_receive := ok_PlainLine_receive (P := P) (w := w) (base := base) D_PlainLine_receive T G_fault_told G_PlainLine_judge
  have G_NumberedLine_enter := ok_NumberedLine_enter (P := P) (w := w) (base := base) D_NumberedLine_enter T
  have G_NumberedLine_leave := ok_NumberedLine_leave (P := P) (w := w) (base := base) D_NumberedLine_leave T G_fault_told
  have G_NumberedLine_put := ok_NumberedLine_put (P := P) (w := w) (base := base) D_NumberedLine_put T G_NumberedLine_leave
  have G_NumberedLine_put_escaped := ok_NumberedLine_put_escaped (P := P) (w := w) (base := base) D_NumberedLine_put_escaped T G_is_reserved G_NumberedLine_leave G_NumberedLine_put
  have G_ticks_in := ok_ticks_in (P := P) (w := w) (base := base) D_ticks_in T
  have G_ticks_of := ok_ticks_of (P := P) (w := w) (base := base) D_ticks_of T
  have G_chord_of_bodies := ok_chord_of_bodies (P := P) (w := w) (base := base) D_chord_of_bodies T
  have G_chord_in := ok_chord_in (P := P) (w := w) (base := base) D_chord_in T G_chord_of_bodies
  have G_fault_in := ok_fault_in (P := P) (w := w) (base := base) D_fault_in T G_check_of G_ticks_in G_ticks_bytes G_ticks_of G_Board_owns G_chord_in
  have G_NumberedLine_end_frame := ok_NumberedLine_end_frame (P := P) (w := w) (base := base) D_NumberedLine_end_frame T G_fault_in G_fault_told G_chord_told G_chord_in G_ticks_of G_ticks_in
  have G_NumberedLine_receive := ok_NumberedLine_receive (P := P) (w := w) (base := base) D_NumberedLine_receive T G_fault_told G_NumberedLine_enter G_NumberedLine_put_escaped G_NumberedLine_end_frame G_NumberedLine_put
  have G_Hall_take := ok_Hall_take (P := P) (w := w) (base := base) D_Hall_take T G_PlainLine_receive G_NumberedLine_receive G_counted
  have G_answer_begun := ok_answer_begun (P := P) (w := w) (base := base) D_answer_begun T G_Hall_policy G_Hall_feed G_Hall_held G_Hall_write G_Hall_read G_Hall_line G_Hall_take
  have G_answer := ok_answer (P := P) (w := w) (base := base) D_answer T G_Hall_begin G_merge G_send G_frame G_answer_begun
  have G_answers := ok_answers (P := P) (w := w) (base := base) D_answers T (He.glo_ok X G (c.fact 265 (f := .glo "SHAPES") rfl)) tab G_Hall G_rows_at G_counted G_answer
  exact G_answers
end
end Kx

-- KLast
/-! The head (one run of the top, its facts looked at by a Hook), and the statement. Printed by gen.py. -/
namespace Kx
open PySem PySem.Spec PyProof.Rows L2
abbrev RR : PySem.W.OpenSpec := PySem.Challenge.rw_strokehall_s01_answers
/-- where the top's objects lie in the heap behind it (found by a run; the proof looks them up) -/
def adE : List Addr := [
  3, 135, 287, 343, 392, 477, 543, 627, 134, 286, 342, 391, 476, 542, 626, 643, 632, 633, 634, 635, 636, 637, 638, 639, 640, 641, 642, 21, 20, 28, 27, 35, 34, 42, 41, 49, 48, 56, 55, 63,
  62, 70, 69, 77, 76, 84, 83, 89, 88, 94, 93, 101, 100, 146, 145, 153, 152, 160, 159, 165, 164, 505, 504, 172, 171, 179, 178, 186, 185, 193, 192, 200, 199, 207, 206, 214, 213, 221, 220, 228,
  227, 354, 353, 361, 360, 401, 400, 406, 405, 413, 412, 420, 419, 488, 487, 493, 492, 498, 497, 512, 511, 554, 553, 650, 649, 657, 656, 664, 663, 87, 86, 92, 91, 113, 112, 120, 119, 125, 124, 132,
  131, 163, 162, 242, 241, 249, 248, 256, 255, 263, 262, 270, 269, 277, 276, 284, 283, 305, 304, 312, 311, 319, 318, 326, 325, 333, 332, 340, 339, 375, 374, 382, 381, 389, 388, 399, 398, 404, 403, 434,
  433, 439, 438, 446, 445, 453, 452, 460, 459, 467, 466, 474, 473, 491, 490, 496, 495, 526, 525, 533, 532, 540, 539, 568, 567, 575, 574, 582, 581, 589, 588, 596, 595, 603, 602, 610, 609, 617, 616, 624,
  623, 111, 110, 123, 122, 437, 436, 6, 4, 15, 16, 17, 18, 19, 22, 23, 24, 25, 26, 29, 30, 31, 32, 33, 36, 37, 38, 39, 40, 43, 44, 45, 46, 47, 50, 51, 52, 53, 54, 57,
  58, 59, 60, 61, 64, 65, 66, 67, 68, 71, 72, 73, 74, 75, 78, 79, 80, 81, 82, 85, 90, 95, 96, 97, 98, 99, 133, 136, 137, 140, 141, 142, 143, 144, 147, 148, 149, 150, 151, 154,
  155, 156, 157, 158, 161, 499, 500, 501, 502, 503, 166, 167, 168, 169, 170, 173, 174, 175, 176, 177, 180, 181, 182, 183, 184, 187, 188, 189, 190, 191, 194, 195, 196, 197, 198, 201, 202, 203, 204, 205,
  208, 209, 210, 211, 212, 215, 216, 217, 218, 219, 222, 223, 224, 225, 226, 285, 288, 289, 341, 344, 345, 348, 349, 350, 351, 352, 355, 356, 357, 358, 359, 390, 393, 394, 397, 402, 407, 408, 409, 410,
  411, 414, 415, 416, 417, 418, 475, 478, 479, 482, 483, 484, 485, 486, 489, 494, 506, 507, 508, 509, 510, 541, 544, 545, 548, 549, 550, 551, 552, 625, 628, 629, 644, 645, 646, 647, 648, 651, 652, 653,
  654, 655, 658, 659, 660, 661, 662, 109, 114, 115, 116, 117, 118, 121, 126, 127, 128, 129, 130, 236, 237, 238, 239, 240, 243, 244, 245, 246, 247, 250, 251, 252, 253, 254, 257, 258, 259, 260, 261, 264,
  265, 266, 267, 268, 271, 272, 273, 274, 275, 278, 279, 280, 281, 282, 299, 300, 301, 302, 303, 306, 307, 308, 309, 310, 313, 314, 315, 316, 317, 320, 321, 322, 323, 324, 327, 328, 329, 330, 331, 334,
  335, 336, 337, 338, 369, 370, 371, 372, 373, 376, 377, 378, 379, 380, 383, 384, 385, 386, 387, 428, 429, 430, 431, 432, 435, 440, 441, 442, 443, 444, 447, 448, 449, 450, 451, 454, 455, 456, 457, 458,
  461, 462, 463, 464, 465, 468, 469, 470, 471, 472, 520, 521, 522, 523, 524, 527, 528, 529, 530, 531, 534, 535, 536, 537, 538, 562, 563, 564, 565, 566, 569, 570, 571, 572, 573, 576, 577, 578, 579, 580,
  583, 584, 585, 586, 587, 590, 591, 592, 593, 594, 597, 598, 599, 600, 601, 604, 605, 606, 607, 608, 611, 612, 613, 614, 615, 618, 619, 620, 621, 622]
noncomputable abbrev EN (w : World) (os : OsState) : Option PySem.W.SharedT := HandSHeadRun.endF (HandSHeadRun.stepQ (HandSHeadRun.denQ HandSHeadRun.tabQ) RR.prog w) 9000 RR.prog w os
noncomputable abbrev KE (s : PySem.W.SharedT) : PySem.W.Frag := He.frG (HandSHeadRun.getT s) adE
theorem runA (w : World) (os : OsState) : (EN w os).map (fun s => (HandSHeadRun.looksF RR.prog (PySem.W.boot_heap w.params) s.abs, HandSHeadRun.seenQ (PySem.W.view RR.prog [137]) looseE (importedModules RR.prog.main.body) (fun s => PySem.W.xlAt (PySem.W.view RR.prog [137]) [] s && PySem.W.recOk [] s) s.abs)) = some (true, PySem.W.openGood (PySem.W.view RR.prog [137]) looseE) := by
  kernel_rfl
theorem runB (w : World) (os : OsState) : (EN w os).map (fun s => (extra clsE shapesE (KE s), faE.all fun f => f.ok (KE s))) = some (true, true) := by
  kernel_rfl
theorem runC (w : World) (os : OsState) : (EN w os).map (fun s => (fnE.all fun d => (He.Fa.code d.at_ d.qual).ok (KE s), fnE.map fun d => He.fnObs (KE s) d.at_)) = some (true, fnE.map He.FnD.val) := by
  kernel_rfl
theorem run (w : World) : HandSHeadRun.RunEqS RR (PySem.W.view RR.prog [137]) (hookX adE clsE shapesE faE fnE) (fun s => obsXG adE clsE shapesE faE fnE (HandSHeadRun.getT s)) 9000 looseE w := run_of (r := RR) (q := PySem.W.view RR.prog [137]) (as := adE) (cls := clsE) (tab := shapesE) (fa := faE) (fn := fnE) (M := 9000) (loose := looseE) (w := w) (runA w) (runB w) (runC w)
theorem ob_eq (s : PySem.W.SharedT) : obsXG adE clsE shapesE faE fnE (HandSHeadRun.getT s) = (hookX adE clsE shapesE faE fnE).obs s.abs := obsXG_eq (HandSHeadRun.getT_eq s)
abbrev QQ : Program := PySem.W.view RR.prog [137]
abbrev DD : DefRec := HandSHeadRun.topDef RR.prog 137
theorem h1 : PySem.W.opening RR.prog = PySem.W.plainProg RR.prog.main.scope.names := by kernel_rfl
theorem h2 (s : Shared) : fenceModules? RR.prog s = some s := by kernel_rfl
theorem h3 : PySem.W.defOf QQ RR.name = some (DD, []) := by kernel_rfl
theorem h4 : RR.prog.theDef RR.name = some (DD.params, DD.body, DD.scope) := by kernel_rfl
theorem h5 : PySem.W.kwWritten? DD.params.kwonlyargs DD.params.kw_defaults = some [] := by kernel_rfl
theorem h6 : RR.wellSaid = true := by decide +kernel
theorem h7 : (PySem.W.chainsOk QQ && PySem.W.opensWell RR.prog) = true := by decide +kernel
theorem h8 : RR.prog.bare := ⟨rfl, rfl, rfl, rfl, rfl, by decide +kernel⟩
theorem h9 : ∃ args, RR.pre args = true ∧ PySem.W.WData.layableAll args = true := ⟨[.list [.int 3]], by decide +kernel, by decide +kernel⟩
theorem h10 : DD.name = ("answers" : Str) := by kernel_rfl
end Kx
open PySem PySem.W PyProof.Rows
set_option maxRecDepth 100000 in
set_option maxHeartbeats 8000000 in
theorem PySem.Challenge.cw_strokehall_s01_answers_holds : PySem.Challenge.rw_strokehall_s01_answers.Holds := by
  refine HandSHeadRun.head_spec (r := Kx.RR) (q := Kx.QQ) (H := Kx.hookX Kx.adE Kx.clsE Kx.shapesE Kx.faE Kx.fnE) (ob := fun s => Kx.obsXG Kx.adE Kx.clsE Kx.shapesE Kx.faE Kx.fnE (HandSHeadRun.getT s)) (M := 9000) (loose := Kx.looseE) (d := Kx.DD) (kwd := []) Kx.ob_eq Kx.h1 Kx.h2 Kx.run Kx.h3 Kx.h4 Kx.h5 os_shapes Kx.h6 Kx.h7 Kx.h8 Kx.h9 ?hc
  case hc =>
    intro w s₀ s₁ mg mb G Y
    obtain ⟨K, KX, c⟩ := Y
    refine L2.walk_specK (r := Kx.RR) (k := 9) (K := fun _ => K) (YP := fun _ h => K.In h) (CX := L2.CX0) (ps := ["calls"]) (sp := Kx.spAnswers) (by decide +kernel) rfl rfl ⟨rfl, by decide, by decide⟩ (fun w h Y => Y) ?F ?S (fun _ _ _ _ z => z) w s₀ s₁ mg mb G KX
    case F =>
      intro w mg fa h _ X G hmg
      have hmg' : mg ("answers" : Str) = some (.ref fa) := by
        rw [← Kx.h10]
        exact hmg
      obtain ⟨fd, D, A⟩ := Kx.putE (P := Kx.RR.prog) (w := w) X G c
      have e := hmg'.symm.trans D.at_
      cases e
      refine ⟨fd, ?_, fun base _ _ => (A base).ok⟩
      obtain ⟨⟨oc, od, kV, doc, pm, an, cdv, ct, osl, rfl, l, cd⟩, kp⟩ := D.fn
      exact fun s us hu => match us, hu with | [_], _ => .of_eq rfl
    case S =>
      intro K H xs a hO hwi hask hx
      cases hx with
      | cons h1 h2 =>
        cases h2
        cases h1 with
        | lst hs ha =>
          have e := L2.ints_dw a.1 _ ha
          subst e
          have q : ((Codec.inLen 0 19000 a.1 && a.1.all (Codec.inInt 0 9007199254740991)) && true) = true := hwi
          rw [Bool.and_eq_true, Bool.and_eq_true] at q
          have pos : ∀ x ∈ a.1, 0 ≤ x := fun x hx => by
            have := List.all_eq_true.mp q.1.2 x hx
            have t : (decide (0 ≤ x) && decide (x ≤ 9007199254740991)) = true := this
            exact of_decide_eq_true (Bool.and_eq_true_iff.mp t).1
          have z := Kx.zns_nats pos
          have v : Kx.vns (a.1.map Int.toNat) = a.1.map L2.V.int := by
            rw [Kx.vns_zns, z]
          refine ⟨_, a.1.map Int.toNat, rfl, v ▸ hs, ?_, ?_, fun H' p _ hp => ?_⟩
          · rw [List.length_map]
            exact (Codec.inNat_iff.mp q.1.1).2
          · rw [z]
            exact hask
          · rw [z] at hp
            exact .lst (L2.SqL.of hp) (L2.dw_ints _)
