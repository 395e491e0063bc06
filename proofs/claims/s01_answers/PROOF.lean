import PyProof.Rows.All
import Wide.All
import OpenK.AllK
import Wide.FinOn
import Open.SpecLaws
import KE.OsHead
import KE.OsGo
import KE.BitLaws
import HandS.ForSpec
import HandS.Comp
import HandS.TupLe
import HandS.Text
import PySem.Challenge.RW_mostcell_s01_answers
set_option Elab.async false
set_option linter.all false
set_option maxRecDepth 100000
set_option maxHeartbeats 4000000
/-! The mathematics of the bytes: little-endian numbers, the check, messages. No library. -/
namespace Mr
open Km356

/-! ### numbers in bytes -/
def allB (l : List Nat) : Prop := ∀ b ∈ l, b < 256
def val (l : List Nat) : Nat := l.foldr (fun b v => b + 256 * v) 0
theorem num_eq (l : List Nat) (k w : Nat) : num l k w = val ((l.drop k).take w) := rfl
theorem val_append (a : List Nat) (b : Nat) : val (a ++ [b]) = val a + b * 256 ^ a.length := by
  induction a with
  | nil => simp [val]
  | cons x r ih =>
    show x + 256 * val (r ++ [b]) = x + 256 * val r + b * 256 ^ (r.length + 1)
    rw [ih, Nat.pow_succ, Nat.mul_add, ← Nat.add_assoc]
    congr 1
    rw [Nat.mul_left_comm, Nat.mul_comm 256]
theorem take_snoc {α : Type} : ∀ {l : List α} {i : Nat} {x : α}, l[i]? = some x → l.take (i + 1) = l.take i ++ [x]
  | [], i, x, h => by simp at h
  | a :: l, 0, x, h => by
    have e : a = x := Option.some.inj h
    subst e
    rfl
  | a :: l, i + 1, x, h => by
    have ih := take_snoc (l := l) (i := i) (x := x) h
    show a :: l.take (i + 1) = a :: l.take i ++ [x]
    rw [ih]
    rfl
theorem num_zero (l : List Nat) (k : Nat) : num l k 0 = 0 := by rw [num_eq, List.take_zero]; rfl
theorem num_succ {l : List Nat} {k i b : Nat} (h : l[k + i]? = some b) : num l k (i + 1) = num l k i + b * 256 ^ i := by
  have h' : (l.drop k)[i]? = some b := by rw [List.getElem?_drop]; exact h
  rw [num_eq, num_eq, take_snoc h', val_append]
  have hl : i < (l.drop k).length := (List.getElem?_eq_some_iff.mp h').1
  rw [List.length_take, Nat.min_eq_left (Nat.le_of_lt hl)]
theorem num_one {l : List Nat} {k b : Nat} (h : l[k]? = some b) : num l k 1 = b := by
  have := num_succ (l := l) (k := k) (i := 0) (b := b) h
  rw [this, num_zero]
  simp
theorem val_lt : ∀ {l : List Nat}, allB l → val l < 256 ^ l.length
  | [], _ => by decide
  | b :: l, h => by
    have h1 := val_lt (l := l) fun x hx => h x (List.mem_cons_of_mem _ hx)
    have h2 := h b List.mem_cons_self
    show b + 256 * val l < 256 ^ (l.length + 1)
    rw [Nat.pow_succ]
    omega
theorem allB_sub {l : List Nat} (h : allB l) (k w : Nat) : allB ((l.drop k).take w) := fun b hb => h b (List.mem_of_mem_drop (List.mem_of_mem_take hb))
theorem num_lt {l : List Nat} (h : allB l) (k w : Nat) : num l k w < 256 ^ w := by
  have := val_lt (allB_sub h k w)
  rw [num_eq]
  exact Nat.lt_of_lt_of_le this (Nat.pow_le_pow_right (by decide) (by rw [List.length_take]; exact Nat.min_le_left _ _))
theorem le_zero (v : Nat) : le 0 v = [] := rfl
theorem le_succ (w v : Nat) : le (w + 1) v = le w v ++ [v / 256 ^ w % 256] := by
  unfold le
  rw [List.range_succ, List.map_append]
  rfl
theorem le_length (w v : Nat) : (le w v).length = w := by simp [le]
theorem le_allB (w v : Nat) : allB (le w v) := by
  intro b hb
  obtain ⟨i, _, rfl⟩ := List.mem_map.mp hb
  exact Nat.mod_lt _ (by decide)
/-- the bytes of a number are the number -/
theorem le_cons (w v : Nat) : le (w + 1) v = v % 256 :: le w (v / 256) := by
  unfold le
  rw [List.range_succ_eq_map, List.map_cons, List.map_map]
  congr 1
  · simp
  · apply List.map_congr_left
    intro i _
    show v / 256 ^ (i + 1) % 256 = v / 256 / 256 ^ i % 256
    rw [Nat.div_div_eq_div_mul, Nat.pow_succ, Nat.mul_comm]
theorem le_val : ∀ {l : List Nat}, allB l → le l.length (val l) = l
  | [], _ => rfl
  | b :: l, h => by
    have h1 := le_val (l := l) fun x hx => h x (List.mem_cons_of_mem _ hx)
    have h2 := h b List.mem_cons_self
    rw [List.length_cons, le_cons]
    have e1 : val (b :: l) % 256 = b := by
      show (b + 256 * val l) % 256 = b
      omega
    have e2 : val (b :: l) / 256 = val l := by
      show (b + 256 * val l) / 256 = val l
      omega
    rw [e1, e2, h1]
theorem val_le : ∀ (w v : Nat), val (le w v) = v % 256 ^ w
  | 0, v => by simp [le_zero, val, Nat.mod_one]
  | w + 1, v => by
    rw [le_cons]
    show v % 256 + 256 * val (le w (v / 256)) = v % 256 ^ (w + 1)
    rw [val_le w, Nat.pow_succ, Nat.mul_comm (256 ^ w), Nat.mod_mul]
theorem le_num {l : List Nat} (h : allB l) {k w : Nat} (hl : k + w ≤ l.length) : le w (num l k w) = (l.drop k).take w := by
  have := le_val (allB_sub h k w)
  rw [List.length_take, List.length_drop, Nat.min_eq_left (by omega)] at this
  rw [num_eq]
  exact this

/-! ### the check -/
theorem crc_bit (c : Nat) : crcBit c = if c % 2 = 1 then (c / 2) ^^^ 0x82F63B78 else c / 2 := rfl
def eight (c : Nat) : Nat := (List.range 8).foldl (fun x _ => crcBit x) c
def bits (c : Nat) : Nat → Nat
  | 0 => c
  | i + 1 => crcBit (bits c i)
theorem bits_eq (c : Nat) : ∀ i, (List.range i).foldl (fun x _ => crcBit x) c = bits c i
  | 0 => rfl
  | i + 1 => by rw [List.range_succ, List.foldl_append, bits_eq c i]; rfl
theorem eight_eq (c : Nat) : bits c 8 = eight c := (bits_eq c 8).symm
theorem crcByte_eq (c b : Nat) : crcByte c b = eight (c ^^^ b) := rfl
def run (l : List Nat) : Nat := l.foldl crcByte 0xFFFFFFFF
theorem run_snoc {l : List Nat} {i b : Nat} (h : l[i]? = some b) : run (l.take (i + 1)) = eight (run (l.take i) ^^^ b) := by
  unfold run
  rw [take_snoc h, List.foldl_append]
  rfl
theorem crc_run (l : List Nat) : crc l = run l ^^^ 0xFFFFFFFF := rfl
theorem crcBit_lt {c : Nat} (h : c < 2 ^ 32) : crcBit c < 2 ^ 32 := by
  unfold crcBit
  split
  · exact Nat.xor_lt_two_pow (by omega) (by decide)
  · omega
theorem bits_lt {c : Nat} (h : c < 2 ^ 32) : ∀ i, bits c i < 2 ^ 32
  | 0 => h
  | i + 1 => crcBit_lt (bits_lt h i)
theorem run_lt : ∀ {l : List Nat}, allB l → ∀ {c : Nat}, c < 2 ^ 32 → l.foldl crcByte c < 2 ^ 32
  | [], _, _, h => h
  | b :: l, h, c, hc => by
    refine run_lt (l := l) (fun x hx => h x (List.mem_cons_of_mem _ hx)) ?_
    rw [crcByte_eq, ← eight_eq]
    exact bits_lt (Nat.xor_lt_two_pow hc (Nat.lt_trans (h b List.mem_cons_self) (by decide))) 8
theorem crc_lt {l : List Nat} (h : allB l) : crc l < 2 ^ 32 := by
  rw [crc_run]
  exact Nat.xor_lt_two_pow (run_lt h (by decide)) (by decide)

/-! ### messages -/
def part (l : List Nat) : Message := ⟨num l 0 1, num l 1 1, num l 2 1, num l 4 4, ⟨⟨num l 8 4, num l 3 1⟩, num l 12 8⟩⟩
theorem messageOf_eq (l : List Nat) : messageOf l = if (part l).good = true ∧ l = (part l).bytes then some (part l) else none := rfl
def body (m : Message) : List Nat := [m.kind, m.client, m.keeper, m.held.stamp.client] ++ (le 4 m.op ++ (le 4 m.held.stamp.number ++ le 8 m.held.value))
theorem bytes_eq (m : Message) : m.bytes = body m ++ le 4 (crc (body m)) := rfl
theorem body_part {l : List Nat} (hl : l.length = 24) (h : allB l) : body (part l) = l.take 20 := by
  have e0 : ∀ k, k < 24 → num l k 1 = l[k]?.getD 0 := fun k hk => by
    have := List.getElem?_eq_getElem (l := l) (i := k) (by omega)
    rw [num_one this, this]
    rfl
  unfold body part
  show [num l 0 1, num l 1 1, num l 2 1, num l 3 1] ++ (le 4 (num l 4 4) ++ (le 4 (num l 8 4) ++ le 8 (num l 12 8))) = _
  rw [le_num h (by omega), le_num h (by omega), le_num h (by omega), e0 0 (by omega), e0 1 (by omega), e0 2 (by omega), e0 3 (by omega)]
  match l, hl with
  | [a0, a1, a2, a3, a4, a5, a6, a7, a8, a9, a10, a11, a12, a13, a14, a15, a16, a17, a18, a19, a20, a21, a22, a23], _ => rfl
theorem checked_iff {l : List Nat} (hl : l.length = 24) (h : allB l) : l = (part l).bytes ↔ num l 20 4 = crc (l.take 20) := by
  rw [bytes_eq, body_part hl h]
  have e : le 4 (num l 20 4) = l.drop 20 := by
    rw [le_num h (by omega), List.take_of_length_le (by rw [List.length_drop]; omega)]
  constructor
  · intro q
    have q2 : l.drop 20 = le 4 (crc (l.take 20)) := by
      have := congrArg (List.drop 20) q
      rw [List.drop_left' (by rw [List.length_take]; omega)] at this
      exact this
    have q3 : num l 20 4 = val (l.drop 20) := by
      rw [num_eq, List.take_of_length_le (by rw [List.length_drop]; omega)]
    rw [q3, q2, val_le]
    exact Nat.mod_eq_of_lt (crc_lt fun b hb => h b (List.mem_of_mem_take hb))
  · intro q
    rw [← q, e, List.take_append_drop]
/-- what the program asks of a message's parts -/
def within (m : Message) : Bool := decide (1 ≤ m.kind) && (decide (m.kind ≤ 4) && (decide (m.client ≤ 15) && (decide (m.held.stamp.client ≤ 15) && (decide (m.keeper ≤ 14) && decide (m.op ≠ 0)))))
def isQ (m : Message) : Bool := decide (m.kind = 1 ∨ m.kind = 3)
def zeros (m : Message) : Bool :=
  if isQ m = true ∧ m.keeper ≠ 0 then false
  else if (m.kind = 1 ∨ m.kind = 4) ∨ m.held.stamp.number = 0 then decide ((m.held.stamp.number = 0 ∧ m.held.stamp.client = 0) ∧ m.held.value = 0)
  else true
theorem good_eq (m : Message) : m.good = (within m && zeros m) := by
  obtain ⟨kind, client, keeper, op, ⟨⟨n, c⟩, v⟩⟩ := m
  have hn : ∀ a b d : Nat, ((⟨⟨a, b⟩, d⟩ : Held) == nothing) = decide ((a = 0 ∧ b = 0) ∧ d = 0) := fun a b d => by
    have : ((⟨⟨a, b⟩, d⟩ : Held) = nothing) ↔ ((a = 0 ∧ b = 0) ∧ d = 0) := by
      unfold nothing
      simp [Held.mk.injEq, Stamp.mk.injEq]
    by_cases q : (a = 0 ∧ b = 0) ∧ d = 0
    · rw [decide_eq_true q]; exact beq_iff_eq.mpr (this.mpr q)
    · rw [decide_eq_false q]; exact beq_eq_false_iff_ne.mpr fun z => q (this.mp z)
  rw [Bool.eq_iff_iff]
  unfold Message.good within zeros isQ CLIENTS KEEPERS
  simp only [hn]
  by_cases k : 1 ≤ kind ∧ kind ≤ 4
  · have : kind = 1 ∨ kind = 2 ∨ kind = 3 ∨ kind = 4 := by omega
    rcases this with rfl | rfl | rfl | rfl <;> by_cases hk : keeper = 0 <;> by_cases hnn : n = 0 <;> by_cases hc : c = 0 <;> by_cases hv : v = 0 <;> simp [hk, hnn, hc, hv] <;> omega
  · have : kind = 0 ∨ 4 < kind := by omega
    simp only [Bool.and_eq_true, decide_eq_true_eq]
    constructor
    · intro q; omega
    · intro q; omega
/-- the program's reading of 24 bytes -/
def right (l : List Nat) : Option Message := if num l 20 4 ≠ crc (l.take 20) then none else if within (part l) = true ∧ zeros (part l) = true then some (part l) else none
theorem right_eq {l : List Nat} (hl : l.length = 24) (h : allB l) : right l = messageOf l := by
  rw [messageOf_eq, good_eq]
  unfold right
  by_cases c : num l 20 4 = crc (l.take 20)
  · rw [if_neg (fun q => q c)]
    by_cases d : within (part l) = true ∧ zeros (part l) = true
    · rw [if_pos d, if_pos ⟨by rw [d.1, d.2]; rfl, (checked_iff hl h).mpr c⟩]
    · rw [if_neg d, if_neg fun q => d ((Bool.and_eq_true _ _).mp q.1 |> fun z => ⟨z.1, z.2⟩)]
  · rw [if_pos c, if_neg fun q => c ((checked_iff hl h).mp q.2)]
theorem messageOf_part {l : List Nat} {m : Message} (e : messageOf l = some m) : m = part l ∧ m.good = true := by
  rw [messageOf_eq] at e
  split at e
  · next q => cases e; exact ⟨rfl, q.1⟩
  · cases e
end Mr

/-! The program's client as a total function, and that it does what the document's client does. No library. -/
namespace Mr
open Km356

/-! ### an operation, a client -/
structure POp where
  client : Nat
  own : Option Nat
  asking : Nat
  answered : List Nat
  held : Held
  done : Bool
structure PCl where
  me : Nat
  keepers : Nat
  begun : Nat
  last : Option POp
def POp.new (cl : Nat) (w : Option Nat) : POp := ⟨cl, w, 1, [], nothing, false⟩
def POp.goesOn (o : POp) : Bool := decide (o.asking ≠ 0)
def POp.awaits (o : POp) (kind keeper : Nat) : Bool := decide (kind = o.asking + 1) && !decide (keeper ∈ o.answered)
def POp.keep (o : POp) (m : Message) : POp := { o with answered := o.answered ++ [m.keeper], held := if o.asking = 1 ∧ o.held.stamp.less m.held.stamp = true then m.held else o.held }
def POp.tellOwn (o : POp) (v : Nat) : POp := if o.held.stamp.number = 4294967295 then { o with asking := 0 } else { o with asking := 3, held := ⟨⟨o.held.stamp.number + 1, o.client⟩, v⟩ }
def POp.goOn (o : POp) : POp :=
  if o.asking = 3 then { o with answered := [], asking := 0, done := true }
  else match o.own with
    | none => { o with answered := [], asking := 3 }
    | some v => ({ o with answered := [] } : POp).tellOwn v
def PCl.fresh : PCl := ⟨0, 0, 0, none⟩
def PCl.going (c : PCl) : Bool := match c.last with
  | none => false
  | some o => o.goesOn
def PCl.starts (c : PCl) (me n : Nat) : PCl × Int := if 15 < me ∨ ¬ (1 ≤ n ∧ n ≤ 15) then (c, -22) else (⟨me, n, 0, none⟩, 0)
def PCl.begins (c : PCl) (w : Option Nat) : PCl × Int := if c.going = true then (c, -16) else if c.begun = 4294967295 then (c, -28) else ({ c with begun := c.begun + 1, last := some (POp.new c.me w) }, 0)
def PCl.awaits (c : PCl) (m : Message) : Bool := match c.last with
  | none => false
  | some o => o.goesOn && (decide (m.client = c.me) && (decide (m.op = c.begun) && (decide (m.keeper < c.keepers) && o.awaits m.kind m.keeper)))
/-- a message that's awaited is kept; if most have answered it goes on -/
def PCl.takes (c : PCl) (o : POp) (m : Message) : PCl := { c with last := some (if c.keepers < 2 * (o.keep m).answered.length then (o.keep m).goOn else o.keep m) }
def PCl.heard (c : PCl) (l : List Nat) : PCl × Int := match messageOf l with
  | none => (c, -71)
  | some m => match c.last with
    | none => (c, 0)
    | some o => if c.awaits m = true then (c.takes o m, 1) else (c, 0)
/-- the question, of an operation that goes on -/
def PCl.question (c : PCl) (o : POp) : Message := if o.asking = 1 then ⟨1, c.me, 0, c.begun, nothing⟩ else ⟨3, c.me, 0, c.begun, o.held⟩
def nums (l : List Nat) : List Int := l.map fun (x : Nat) => (x : Int)
def PCl.said (c : PCl) : List Int := match c.last with
  | none => [-11]
  | some o => if o.goesOn = true then 0 :: nums (c.question o).bytes else [-11]
def PCl.ended (c : PCl) : List Int := match c.last with
  | none => [-11]
  | some o => if o.goesOn = true then [-11] else if o.done = false then [-75] else [0, (o.held.value : Int)]
def PCl.does (c : PCl) : Call → PCl × List Int
  | .cStart me n => ((c.starts me n).1, [(c.starts me n).2])
  | .cRead => ((c.begins none).1, [(c.begins none).2])
  | .cWrite v => ((c.begins (some v)).1, [(c.begins (some v)).2])
  | .cSay => (c, c.said)
  | .cHeard l => ((c.heard l).1, [(c.heard l).2])
  | .cDone => (c, c.ended)
  | _ => (c, [-1])
def told (a : Ans) : List Int := a.value :: nums a.out

/-! ### they go alike -/
/-- got and answered tell the same -/
structure Got (g : List Bool) (a : List Nat) : Prop where
  len : g.length = 15
  mem : ∀ k, g.getD k false = decide (k ∈ a)
  cnt : (g.filter fun b => b).length = a.length
theorem Got.none : Got noOne [] := ⟨rfl, fun k => by
  unfold noOne KEEPERS
  rw [List.getD_eq_getElem?_getD, List.getElem?_replicate]
  split <;> simp, rfl⟩
theorem cnt_set : ∀ {g : List Bool} {k : Nat}, g[k]? = some false → ((g.set k true).filter fun b => b).length = (g.filter fun b => b).length + 1
  | [], k, h => by simp at h
  | b :: g, 0, h => by
    have e : b = false := Option.some.inj h
    subst e
    simp
  | b :: g, k + 1, h => by
    have ih := cnt_set (g := g) (k := k) h
    show ((b :: g.set k true).filter fun b => b).length = _
    cases b <;> simp [ih]
theorem Got.add {g : List Bool} {a : List Nat} (G : Got g a) {k : Nat} (hk : k < 15) (hn : k ∉ a) : Got (g.set k true) (a ++ [k]) := by
  have hl : k < g.length := by rw [G.len]; exact hk
  have e : g[k]? = some false := by
    have := G.mem k
    rw [List.getD_eq_getElem?_getD, List.getElem?_eq_getElem hl, decide_eq_false hn] at this
    rw [List.getElem?_eq_getElem hl]
    exact congrArg some this
  refine ⟨by rw [List.length_set]; exact G.len, fun j => ?_, ?_⟩
  · by_cases q : j = k
    · subst q
      rw [List.getD_eq_getElem?_getD, List.getElem?_set_self hl]
      simp
    · have m := G.mem j
      rw [List.getD_eq_getElem?_getD] at m ⊢
      rw [List.getElem?_set_ne fun z => q z.symm, m]
      simp [q]
  · rw [cnt_set e, G.cnt, List.length_append]
    rfl
structure Rel (c : Client) (p : PCl) : Prop where
  me : p.me = c.me
  keepers : p.keepers = c.keepers
  begun : p.begun = c.op
  opmax : c.op ≤ 4294967295
  num : c.best.stamp.number ≤ 4294967295
  last : match p.last with
    | none => c.phase = 0
    | some o => o.client = c.me ∧ o.own = c.writes ∧ o.held = c.best ∧ ((c.phase = 1 ∧ o.asking = 1 ∧ o.done = false ∧ Got c.got o.answered) ∨ (c.phase = 2 ∧ o.asking = 3 ∧ o.done = false ∧ Got c.got o.answered) ∨ (c.phase = 3 ∧ o.asking = 0 ∧ o.done = true) ∨ (c.phase = 4 ∧ o.asking = 0 ∧ o.done = false))
theorem Rel.goes {c : Client} {p : PCl} (R : Rel c p) : p.going = c.goes := by
  have L := R.last
  unfold PCl.going Client.goes
  cases h : p.last with
  | none =>
    rw [h] at L
    have L : c.phase = 0 := L
    rw [L]
    rfl
  | some o =>
    rw [h] at L
    obtain ⟨_, _, _, d⟩ := L
    show o.goesOn = _
    unfold POp.goesOn
    rcases d with ⟨h1, h2, _⟩ | ⟨h1, h2, _⟩ | ⟨h1, h2, _⟩ | ⟨h1, h2, _⟩ <;> rw [h1, h2] <;> rfl
theorem start_rel (c : Client) (p : PCl) (me n : Nat) : told (cDoes c (.cStart me n)).2 = (p.does (.cStart me n)).2 ∧
    (((cDoes c (.cStart me n)).1 = c ∧ (p.does (.cStart me n)).1 = p ∧ (p.does (.cStart me n)).2 = [-22]) ∨ (Rel (cDoes c (.cStart me n)).1 (p.does (.cStart me n)).1 ∧ (p.does (.cStart me n)).2 = [0])) := by
  show told (if CLIENTS ≤ me ∨ n = 0 ∨ KEEPERS < n then (c, only (-22)) else (client0 me n, only 0)).2 = [(p.starts me n).2] ∧
    (((if CLIENTS ≤ me ∨ n = 0 ∨ KEEPERS < n then (c, only (-22)) else (client0 me n, only 0)).1 = c ∧ (p.starts me n).1 = p ∧ [(p.starts me n).2] = [-22]) ∨ (Rel (if CLIENTS ≤ me ∨ n = 0 ∨ KEEPERS < n then (c, only (-22)) else (client0 me n, only 0)).1 (p.starts me n).1 ∧ [(p.starts me n).2] = [0]))
  unfold PCl.starts CLIENTS KEEPERS
  by_cases h : 16 ≤ me ∨ n = 0 ∨ 15 < n
  · rw [if_pos h, if_pos (by omega)]
    exact ⟨rfl, .inl ⟨rfl, rfl, rfl⟩⟩
  · rw [if_neg h, if_neg (by omega)]
    exact ⟨rfl, .inr ⟨⟨rfl, rfl, rfl, Nat.zero_le _, Nat.zero_le _, rfl⟩, rfl⟩⟩
theorem begin_rel {c : Client} {p : PCl} (R : Rel c p) (w : Option Nat) (x : Client × Ans) (hx : x = if c.goes = true then (c, only (-16)) else if COUNT ≤ c.op + 1 then (c, only (-28)) else (c.begins w, only 0)) :
    told x.2 = [(p.begins w).2] ∧ Rel x.1 (p.begins w).1 := by
  subst hx
  unfold PCl.begins COUNT
  rw [R.goes, R.begun]
  by_cases h : c.goes = true
  · rw [if_pos h, if_pos h]
    exact ⟨rfl, R⟩
  · rw [if_neg h, if_neg h]
    have := R.opmax
    by_cases h2 : c.op = 4294967295
    · rw [if_pos h2, if_pos (by rw [h2]; decide)]
      exact ⟨rfl, R⟩
    · rw [if_neg h2, if_neg (by omega)]
      refine ⟨rfl, R.me, R.keepers, rfl, ?_, Nat.zero_le _, ?_⟩
      · show c.op + 1 ≤ 4294967295
        omega
      · exact ⟨R.me, rfl, rfl, .inl ⟨rfl, rfl, rfl, Got.none⟩⟩
theorem wants_eq {c : Client} {p : PCl} (R : Rel c p) (m : Message) : c.wants m = p.awaits m := by
  have L := R.last
  unfold Client.wants PCl.awaits
  cases h : p.last with
  | none =>
    rw [h] at L
    have L : c.phase = 0 := L
    rw [L]
    simp
  | some o =>
    rw [h] at L
    obtain ⟨_, _, _, d⟩ := L
    unfold POp.goesOn POp.awaits
    rw [R.me, R.keepers, R.begun]
    have b1 : ∀ a b : Nat, (a == b) = decide (a = b) := fun a b => rfl
    rcases d with ⟨h1, h2, _, G⟩ | ⟨h1, h2, _, G⟩ | ⟨h1, h2, _⟩ | ⟨h1, h2, _⟩
    · simp only [h1, h2, G.mem, b1]
      by_cases k : m.kind = 2 <;> by_cases l : m.keeper ∈ o.answered <;> simp [k, l]
    · simp only [h1, h2, G.mem, b1]
      by_cases k : m.kind = 4 <;> by_cases l : m.keeper ∈ o.answered <;> simp [k, l]
    · simp only [h1, h2]
      simp
    · simp only [h1, h2]
      simp
theorem wants_new {c : Client} {m : Message} (h : c.wants m = true) : c.got.getD m.keeper false = false := by
  unfold Client.wants at h
  simp only [Bool.and_eq_true, Bool.not_eq_true'] at h
  exact h.2.2.2.1
theorem hears_rel {c : Client} {p : PCl} {o : POp} (R : Rel c p) {m : Message} (hk : m.keeper < 15) (hn : m.held.stamp.number ≤ 4294967295) (ho : p.last = some o) (hw : c.wants m = true) : Rel (c.hears m) (p.takes o m) := by
  have L := R.last
  rw [ho] at L
  obtain ⟨l1, l2, l3, d⟩ := L
  have hp : (c.phase = 1 ∧ o.asking = 1 ∧ o.done = false ∧ Got c.got o.answered) ∨ (c.phase = 2 ∧ o.asking = 3 ∧ o.done = false ∧ Got c.got o.answered) := by
    rcases d with d | d | d | d
    · exact .inl d
    · exact .inr d
    · unfold Client.wants at hw
      rw [d.1] at hw
      simp at hw
    · unfold Client.wants at hw
      rw [d.1] at hw
      simp at hw
  have G : Got c.got o.answered := by
    rcases hp with h | h
    · exact h.2.2.2
    · exact h.2.2.2
  have hna : m.keeper ∉ o.answered := by
    have := wants_new hw
    rw [G.mem] at this
    exact of_decide_eq_false this
  have G' := G.add hk hna
  have em : most c.keepers (c.got.set m.keeper true) = decide (c.keepers < 2 * (o.answered ++ [m.keeper]).length) := by
    unfold most
    rw [G'.cnt]
  have bn : (later c.best m.held).stamp.number ≤ 4294967295 := by
    unfold later
    split
    · exact hn
    · exact R.num
  have R1 := R.me
  have R2 := R.keepers
  have R3 := R.begun
  have R4 := R.opmax
  have R5 := R.num
  clear R hw d hna G hk hn
  obtain ⟨cme, ck, cop, cph, cw, cb, cg⟩ := c
  obtain ⟨pme, pk, pb, pl⟩ := p
  obtain ⟨oc, oo, oa, oan, oh, od⟩ := o
  dsimp only at l1 l2 l3 hp G' em bn R1 R2 R3 R4 R5 ho
  subst l1 l2 l3 R1 R2 R3 ho
  rcases hp with ⟨p1, a1, dn, _⟩ | ⟨p1, a1, dn, _⟩
  · -- it asks
    subst p1 a1 dn
    have hh : (({ client := pme, own := oo, asking := 1, answered := oan, held := oh, done := false } : POp).keep m) = { client := pme, own := oo, asking := 1, answered := oan ++ [m.keeper], held := later oh m.held, done := false } := by
      unfold POp.keep later
      simp
    unfold PCl.takes
    rw [hh]
    by_cases q : pk < 2 * (oan ++ [m.keeper]).length
    · have eC : ({ me := pme, keepers := pk, op := pb, phase := 1, writes := oo, best := oh, got := cg } : Client).hears m = ({ me := pme, keepers := pk, op := pb, phase := 1, writes := oo, best := later oh m.held, got := cg.set m.keeper true } : Client).turns := by
        unfold Client.hears
        simp only [em, q, decide_true, if_true]
      rw [eC]
      dsimp only
      rw [if_pos q]
      cases oo with
      | none => exact ⟨rfl, rfl, rfl, R4, bn, rfl, rfl, rfl, .inr (.inl ⟨rfl, rfl, rfl, Got.none⟩)⟩
      | some v =>
        by_cases z : (later oh m.held).stamp.number = 4294967295
        · have e1 : ({ me := pme, keepers := pk, op := pb, phase := 1, writes := some v, best := later oh m.held, got := cg.set m.keeper true } : Client).turns = { me := pme, keepers := pk, op := pb, phase := 4, writes := some v, best := later oh m.held, got := cg.set m.keeper true } := by
            show (if COUNT ≤ (later oh m.held).stamp.number + 1 then _ else _) = _
            rw [if_pos (by rw [z]; decide)]
          have e2 : ({ client := pme, own := some v, asking := 1, answered := oan ++ [m.keeper], held := later oh m.held, done := false } : POp).goOn = { client := pme, own := some v, asking := 0, answered := [], held := later oh m.held, done := false } := by
            show (if (later oh m.held).stamp.number = 4294967295 then _ else _) = _
            rw [if_pos z]
          rw [e1, e2]
          exact ⟨rfl, rfl, rfl, R4, bn, rfl, rfl, rfl, .inr (.inr (.inr ⟨rfl, rfl, rfl⟩))⟩
        · have e1 : ({ me := pme, keepers := pk, op := pb, phase := 1, writes := some v, best := later oh m.held, got := cg.set m.keeper true } : Client).turns = { me := pme, keepers := pk, op := pb, phase := 2, writes := some v, best := ⟨⟨(later oh m.held).stamp.number + 1, pme⟩, v⟩, got := noOne } := by
            show (if COUNT ≤ (later oh m.held).stamp.number + 1 then _ else _) = _
            rw [if_neg (by unfold COUNT; omega)]
          have e2 : ({ client := pme, own := some v, asking := 1, answered := oan ++ [m.keeper], held := later oh m.held, done := false } : POp).goOn = { client := pme, own := some v, asking := 3, answered := [], held := ⟨⟨(later oh m.held).stamp.number + 1, pme⟩, v⟩, done := false } := by
            show (if (later oh m.held).stamp.number = 4294967295 then _ else _) = _
            rw [if_neg z]
          rw [e1, e2]
          refine ⟨rfl, rfl, rfl, R4, ?_, rfl, rfl, rfl, .inr (.inl ⟨rfl, rfl, rfl, Got.none⟩)⟩
          show (later oh m.held).stamp.number + 1 ≤ 4294967295
          omega
    · have eC : ({ me := pme, keepers := pk, op := pb, phase := 1, writes := oo, best := oh, got := cg } : Client).hears m = ({ me := pme, keepers := pk, op := pb, phase := 1, writes := oo, best := later oh m.held, got := cg.set m.keeper true } : Client) := by
        unfold Client.hears
        simp only [em, q, decide_false, if_true]
        rfl
      rw [eC]
      dsimp only
      rw [if_neg q]
      exact ⟨rfl, rfl, rfl, R4, bn, rfl, rfl, rfl, .inl ⟨rfl, rfl, rfl, G'⟩⟩
  · subst p1 a1 dn
    have hh : (({ client := pme, own := oo, asking := 3, answered := oan, held := oh, done := false } : POp).keep m) = { client := pme, own := oo, asking := 3, answered := oan ++ [m.keeper], held := oh, done := false } := by
      unfold POp.keep
      simp
    unfold PCl.takes
    rw [hh]
    by_cases q : pk < 2 * (oan ++ [m.keeper]).length
    · have eC : ({ me := pme, keepers := pk, op := pb, phase := 2, writes := oo, best := oh, got := cg } : Client).hears m = ({ me := pme, keepers := pk, op := pb, phase := 3, writes := oo, best := oh, got := cg.set m.keeper true } : Client) := by
        unfold Client.hears
        simp only [em, q, decide_true, if_true]
        rfl
      rw [eC]
      dsimp only
      rw [if_pos q]
      exact ⟨rfl, rfl, rfl, R4, R5, rfl, rfl, rfl, .inr (.inr (.inl ⟨rfl, rfl, rfl⟩))⟩
    · have eC : ({ me := pme, keepers := pk, op := pb, phase := 2, writes := oo, best := oh, got := cg } : Client).hears m = ({ me := pme, keepers := pk, op := pb, phase := 2, writes := oo, best := oh, got := cg.set m.keeper true } : Client) := by
        unfold Client.hears
        simp only [em, q, decide_false]
        rfl
      rw [eC]
      dsimp only
      rw [if_neg q]
      exact ⟨rfl, rfl, rfl, R4, R5, rfl, rfl, rfl, .inr (.inl ⟨rfl, rfl, rfl, G'⟩)⟩
/-- what may be handed to a client: 24 bytes -/
def Fine : Call → Prop
  | .cHeard l => l.length = 24 ∧ allB l
  | .kHeard l => l.length = 24 ∧ allB l
  | _ => True
theorem does_rel {c : Client} {p : PCl} (R : Rel c p) {x : Call} (hx : Fine x) (hw : whose x = 1) : told (cDoes c x).2 = (p.does x).2 ∧ Rel (cDoes c x).1 (p.does x).1 := by
  cases x with
  | kStart _ => cases hw
  | kHeard _ => cases hw
  | cStart me n =>
    have := start_rel c p me n
    refine ⟨this.1, ?_⟩
    rcases this.2 with ⟨h1, h2, _⟩ | ⟨h, _⟩
    · rw [h1, h2]; exact R
    · exact h
  | cRead => exact begin_rel R none _ rfl
  | cWrite v => exact begin_rel R (some v) _ rfl
  | cSay =>
    refine ⟨?_, R⟩
    show told (if c.goes = true then { value := 0, out := c.says.bytes } else only (-11)) = p.said
    have g := R.goes
    have L := R.last
    unfold PCl.said
    unfold PCl.going at g
    cases h : p.last with
    | none =>
      rw [h] at g
      rw [if_neg (by rw [← g]; simp)]
      rfl
    | some o =>
      rw [h] at g L
      obtain ⟨l1, l2, l3, d⟩ := L
      have g : o.goesOn = c.goes := g
      show _ = if o.goesOn = true then 0 :: nums (p.question o).bytes else [-11]
      rw [g]
      by_cases k : c.goes = true
      · rw [if_pos k, if_pos k]
        have e : c.says = p.question o := by
          unfold Client.says PCl.question
          rw [R.me, R.begun, l3]
          rcases d with ⟨h1, h2, _⟩ | ⟨h1, h2, _⟩ | ⟨h1, h2, _⟩ | ⟨h1, h2, _⟩
          · rw [h1, h2]; rfl
          · rw [h1, h2]; rfl
          · exact absurd k (by unfold Client.goes; rw [h1]; decide)
          · exact absurd k (by unfold Client.goes; rw [h1]; decide)
        rw [e]
        rfl
      · rw [if_neg k, if_neg k]
        rfl
  | cHeard l =>
    obtain ⟨hl, hb⟩ := hx
    show told (match messageOf l with | none => (c, only (-71)) | some m => if c.wants m = true then (c.hears m, only 1) else (c, only 0)).2 = [(p.heard l).2] ∧ Rel (match messageOf l with | none => (c, only (-71)) | some m => if c.wants m = true then (c.hears m, only 1) else (c, only 0)).1 (p.heard l).1
    unfold PCl.heard
    cases h : messageOf l with
    | none => exact ⟨rfl, R⟩
    | some m =>
      obtain ⟨em, hg⟩ := messageOf_part h
      have hk : m.keeper < 15 := by
        rw [good_eq, Bool.and_eq_true] at hg
        have := hg.1
        unfold within at this
        simp only [Bool.and_eq_true, decide_eq_true_eq] at this
        omega
      have hn : m.held.stamp.number ≤ 4294967295 := by
        rw [em]
        have := num_lt hb 8 4
        show num l 8 4 ≤ 4294967295
        omega
      have w := wants_eq R m
      cases hp : p.last with
      | none =>
        have : p.awaits m = false := by unfold PCl.awaits; rw [hp]
        show told (if c.wants m = true then (c.hears m, only 1) else (c, only 0)).2 = [0] ∧ Rel (if c.wants m = true then (c.hears m, only 1) else (c, only 0)).1 p
        rw [if_neg (by rw [w, this]; simp)]
        exact ⟨rfl, R⟩
      | some o =>
        show told (if c.wants m = true then (c.hears m, only 1) else (c, only 0)).2 = [(if p.awaits m = true then (p.takes o m, (1 : Int)) else (p, 0)).2] ∧ Rel (if c.wants m = true then (c.hears m, only 1) else (c, only 0)).1 (if p.awaits m = true then (p.takes o m, (1 : Int)) else (p, 0)).1
        rw [← w]
        by_cases q : c.wants m = true
        · rw [if_pos q, if_pos q]
          exact ⟨rfl, hears_rel R hk hn hp q⟩
        · rw [if_neg q, if_neg q]
          exact ⟨rfl, R⟩
  | cDone =>
    refine ⟨?_, R⟩
    show told (if c.phase = 3 then { value := 0, out := [c.best.value] } else if c.phase = 4 then only (-75) else only (-11)) = p.ended
    have L := R.last
    unfold PCl.ended
    cases h : p.last with
    | none =>
      rw [h] at L
      have L : c.phase = 0 := L
      rw [L]
      rfl
    | some o =>
      rw [h] at L
      obtain ⟨l1, l2, l3, d⟩ := L
      show _ = if o.goesOn = true then [-11] else if o.done = false then [-75] else [0, (o.held.value : Int)]
      unfold POp.goesOn
      rcases d with ⟨h1, h2, h3, _⟩ | ⟨h1, h2, h3, _⟩ | ⟨h1, h2, h3⟩ | ⟨h1, h2, h3⟩
      · rw [h1, h2]; rfl
      · rw [h1, h2]; rfl
      · rw [h1, h2, h3, l3]; rfl
      · rw [h1, h2, h3]; rfl
end Mr

/-! The list of calls, read call by call; the program's state against the specification's. No library. -/
namespace Mr
open Km356

/-- what stands at the reader's place: the whole call x of object k; behind it t -/
inductive Nxt : List Int → Nat → Call → List Int → Prop
  | kStart {k me : Nat} {t : List Int} (hk : k < 4) : Nxt (0 :: (k : Int) :: (me : Int) :: t) k (.kStart me) t
  | kHeard {k : Nat} {l : List Nat} {t : List Int} (hk : k < 4) (hl : l.length = 24) (hb : allB l) : Nxt (1 :: (k : Int) :: 24 :: (nums l ++ t)) k (.kHeard l) t
  | cStart {k me n : Nat} {t : List Int} (hk : k < 2) : Nxt (2 :: (k : Int) :: (me : Int) :: (n : Int) :: t) k (.cStart me n) t
  | cRead {k : Nat} {t : List Int} (hk : k < 2) : Nxt (3 :: (k : Int) :: t) k .cRead t
  | cWrite {k v : Nat} {t : List Int} (hk : k < 2) : Nxt (4 :: (k : Int) :: (v : Int) :: t) k (.cWrite v) t
  | cSay {k : Nat} {t : List Int} (hk : k < 2) : Nxt (5 :: (k : Int) :: t) k .cSay t
  | cHeard {k : Nat} {l : List Nat} {t : List Int} (hk : k < 2) (hl : l.length = 24) (hb : allB l) : Nxt (6 :: (k : Int) :: 24 :: (nums l ++ t)) k (.cHeard l) t
  | cDone {k : Nat} {t : List Int} (hk : k < 2) : Nxt (7 :: (k : Int) :: t) k .cDone t
theorem Nxt.fine {r : List Int} {k : Nat} {x : Call} {t : List Int} (h : Nxt r k x t) : Fine x := by
  cases h <;> first | trivial | exact ⟨by assumption, by assumption⟩
def stepOf (s : Km356Neutral.S) (k : Nat) (x : Call) : Km356Neutral.S × List Int := match whose x with
  | 0 => Km356Neutral.step0 s k x
  | _ => Km356Neutral.step1 s k x
theorem within_nat {lo hi z : Int} (h : PyInside.within lo hi z = true) (h0 : 0 ≤ lo) : ∃ n : Nat, z = (n : Int) ∧ (n : Int) ≤ hi := by
  unfold PyInside.within at h
  rw [Bool.and_eq_true, decide_eq_true_eq, decide_eq_true_eq] at h
  exact ⟨z.toNat, by omega, by omega⟩
theorem nums_of {l : List Int} (h : l.all (PyInside.within 0 255) = true) : ∃ m : List Nat, l = nums m ∧ allB m := by
  refine ⟨l.map Int.toNat, ?_, fun b hb => ?_⟩
  · unfold nums
    rw [List.map_map]
    conv => lhs; rw [← List.map_id l]
    apply List.map_congr_left
    intro z hz
    obtain ⟨n, rfl, _⟩ := within_nat (List.all_eq_true.mp h z hz) (Int.le_refl 0)
    rfl
  · obtain ⟨z, hz, rfl⟩ := List.mem_map.mp hb
    obtain ⟨n, rfl, hn⟩ := within_nat (List.all_eq_true.mp h z hz) (Int.le_refl 0)
    rw [Int.toNat_natCast]
    omega
theorem nats_nums (l : List Nat) : Km356Neutral.nats (nums l) = l := by
  unfold Km356Neutral.nats nums
  rw [List.map_map]
  conv => rhs; rw [← List.map_id l]
  apply List.map_congr_left
  intro z _
  rfl
theorem nums_length (l : List Nat) : (nums l).length = l.length := by unfold nums; rw [List.length_map]
/-- a place of n numbers and no row -/
theorem call0 {p : Int} {n : Nat} (hp : PyKm356.shape p = some (n, 0)) {r : List Int} {c : List (List Int)} {t : List Int} (h : PyFlat.call PyKm356.shape (p :: r) = some (c, t)) :
    n ≤ r.length ∧ c = [p :: r.take n] ∧ t = r.drop n := by
  unfold PyFlat.call at h
  dsimp only at h
  rw [hp] at h
  dsimp only at h
  split at h
  · cases h
  · next q =>
    unfold PyFlat.rows at h
    cases h
    exact ⟨by omega, rfl, rfl⟩
/-- one number and a row -/
theorem call1 {p : Int} (hp : PyKm356.shape p = some (1, 1)) {r : List Int} {c : List (List Int)} {t : List Int} (h : PyFlat.call PyKm356.shape (p :: r) = some (c, t)) :
    ∃ k n s, r = k :: n :: s ∧ 0 ≤ n ∧ n.toNat ≤ s.length ∧ c = [[p, k], s.take n.toNat] ∧ t = s.drop n.toNat := by
  unfold PyFlat.call at h
  dsimp only at h
  rw [hp] at h
  dsimp only at h
  split at h
  · cases h
  · next q =>
    match r, q, h with
    | [], q, h => exact absurd Nat.zero_lt_one q
    | [k], q, h =>
      simp [PyFlat.rows, PyFlat.row] at h
    | k :: n :: s, q, h =>
      by_cases g : 0 ≤ n ∧ n.toNat ≤ s.length
      · have h : (some ([p, k] :: [s.take n.toNat], s.drop n.toNat) : Option (List (List Int) × List Int)) = some (c, t) := by
          simpa [PyFlat.rows, PyFlat.row, g] using h
        cases h
        exact ⟨k, n, s, rfl, g.1, g.2, rfl, rfl⟩
      · exfalso
        have g' : ¬ (0 ≤ n ∧ n ≤ (s.length : Int)) := fun z => g ⟨z.1, by omega⟩
        simp [PyFlat.rows, PyFlat.row, g'] at h
theorem getD_zero (k : Int) (l : List Int) (c : List (List Int)) : (((k :: l) :: c).getD 0 []).getD 0 0 = k := rfl
theorem next_of {r : List Int} {c : List (List Int)} {t : List Int} (h : PyFlat.call PyKm356.shape r = some (c, t)) (b : PyInside.call PyKm356.bound c = true) :
    ∃ k x, Nxt r k x t ∧ ∀ s, Km356Neutral.step s (PyKm356.whole c) = stepOf s k x := by
  match r, h with
  | p :: r, h =>
    by_cases p0 : p = 0
    · subst p0
      obtain ⟨hl, rfl, rfl⟩ := call0 (n := 2) rfl h
      match r, hl, b with
      | k :: me :: r, _, b =>
        have b : ((PyInside.within 0 3 k && (PyInside.within 0 4294967295 me && true)) && true) = true := b
        simp only [Bool.and_eq_true, Bool.and_true] at b
        obtain ⟨k, rfl, hk⟩ := within_nat b.1 (Int.le_refl 0)
        obtain ⟨me, rfl, hm⟩ := within_nat b.2 (Int.le_refl 0)
        exact ⟨k, .kStart me, .kStart (by omega), fun s => rfl⟩
    by_cases p1 : p = 1
    · subst p1
      obtain ⟨k, n, s, rfl, hn, hs, rfl, rfl⟩ := call1 rfl h
      have b : ((PyInside.within 0 3 k && true) && (decide (24 ≤ (s.take n.toNat).length) && decide ((s.take n.toNat).length ≤ 24) && (s.take n.toNat).all (PyInside.within 0 255) && true)) = true := b
      simp only [Bool.and_eq_true, Bool.and_true, decide_eq_true_eq] at b
      obtain ⟨b1, ⟨b2, b3⟩, b4⟩ := b
      obtain ⟨k, rfl, hk⟩ := within_nat b1 (Int.le_refl 0)
      obtain ⟨l, el, hb⟩ := nums_of b4
      have hl : l.length = 24 := by rw [← nums_length, ← el]; omega
      have en : n = 24 := by rw [List.length_take] at b2 b3; omega
      subst en
      have es : s = nums l ++ s.drop 24 := by
        have := (List.take_append_drop 24 s).symm
        rw [show s.take 24 = nums l from el] at this
        exact this
      refine ⟨k, .kHeard l, ?_, fun st => ?_⟩
      · have := Nxt.kHeard (k := k) (l := l) (t := s.drop 24) (by omega) hl hb
        rw [← es] at this
        exact this
      · show Km356Neutral.step st [[1, (k : Int)], s.take 24] = _
        rw [show s.take 24 = nums l from el]
        have e : Km356Neutral.callOf [[1, (k : Int)], nums l] = some (.kHeard l) := congrArg (fun z => some (Call.kHeard z)) (nats_nums l)
        unfold Km356Neutral.step
        rw [e]
        rfl
    by_cases p2 : p = 2
    · subst p2
      obtain ⟨hl, rfl, rfl⟩ := call0 (n := 3) rfl h
      match r, hl, b with
      | k :: me :: n :: r, _, b =>
        have b : ((PyInside.within 0 1 k && (PyInside.within 0 4294967295 me && (PyInside.within 0 4294967295 n && true))) && true) = true := b
        simp only [Bool.and_eq_true, Bool.and_true] at b
        obtain ⟨k, rfl, hk⟩ := within_nat b.1 (Int.le_refl 0)
        obtain ⟨me, rfl, hm⟩ := within_nat b.2.1 (Int.le_refl 0)
        obtain ⟨n, rfl, hn⟩ := within_nat b.2.2 (Int.le_refl 0)
        exact ⟨k, .cStart me n, .cStart (by omega), fun s => rfl⟩
    by_cases p3 : p = 3
    · subst p3
      obtain ⟨hl, rfl, rfl⟩ := call0 (n := 1) rfl h
      match r, hl, b with
      | k :: r, _, b =>
        have b : ((PyInside.within 0 1 k && true) && true) = true := b
        simp only [Bool.and_true] at b
        obtain ⟨k, rfl, hk⟩ := within_nat b (Int.le_refl 0)
        exact ⟨k, .cRead, .cRead (by omega), fun s => rfl⟩
    by_cases p4 : p = 4
    · subst p4
      obtain ⟨hl, rfl, rfl⟩ := call0 (n := 2) rfl h
      match r, hl, b with
      | k :: v :: r, _, b =>
        have b : ((PyInside.within 0 1 k && (PyInside.within 0 18446744073709551615 v && true)) && true) = true := b
        simp only [Bool.and_eq_true, Bool.and_true] at b
        obtain ⟨k, rfl, hk⟩ := within_nat b.1 (Int.le_refl 0)
        obtain ⟨v, rfl, hv⟩ := within_nat b.2 (Int.le_refl 0)
        exact ⟨k, .cWrite v, .cWrite (by omega), fun s => rfl⟩
    by_cases p5 : p = 5
    · subst p5
      obtain ⟨hl, rfl, rfl⟩ := call0 (n := 1) rfl h
      match r, hl, b with
      | k :: r, _, b =>
        have b : ((PyInside.within 0 1 k && true) && true) = true := b
        simp only [Bool.and_true] at b
        obtain ⟨k, rfl, hk⟩ := within_nat b (Int.le_refl 0)
        exact ⟨k, .cSay, .cSay (by omega), fun s => rfl⟩
    by_cases p6 : p = 6
    · subst p6
      obtain ⟨k, n, s, rfl, hn, hs, rfl, rfl⟩ := call1 rfl h
      have b : ((PyInside.within 0 1 k && true) && (decide (24 ≤ (s.take n.toNat).length) && decide ((s.take n.toNat).length ≤ 24) && (s.take n.toNat).all (PyInside.within 0 255) && true)) = true := b
      simp only [Bool.and_eq_true, Bool.and_true, decide_eq_true_eq] at b
      obtain ⟨b1, ⟨b2, b3⟩, b4⟩ := b
      obtain ⟨k, rfl, hk⟩ := within_nat b1 (Int.le_refl 0)
      obtain ⟨l, el, hb⟩ := nums_of b4
      have hl : l.length = 24 := by rw [← nums_length, ← el]; omega
      have en : n = 24 := by rw [List.length_take] at b2 b3; omega
      subst en
      have es : s = nums l ++ s.drop 24 := by
        have := (List.take_append_drop 24 s).symm
        rw [show s.take 24 = nums l from el] at this
        exact this
      refine ⟨k, .cHeard l, ?_, fun st => ?_⟩
      · have := Nxt.cHeard (k := k) (l := l) (t := s.drop 24) (by omega) hl hb
        rw [← es] at this
        exact this
      · show Km356Neutral.step st [[6, (k : Int)], s.take 24] = _
        rw [show s.take 24 = nums l from el]
        have e : Km356Neutral.callOf [[6, (k : Int)], nums l] = some (.cHeard l) := congrArg (fun z => some (Call.cHeard z)) (nats_nums l)
        unfold Km356Neutral.step
        rw [e]
        rfl
    by_cases p7 : p = 7
    · subst p7
      obtain ⟨hl, rfl, rfl⟩ := call0 (n := 1) rfl h
      match r, hl, b with
      | k :: r, _, b =>
        have b : ((PyInside.within 0 1 k && true) && true) = true := b
        simp only [Bool.and_true] at b
        obtain ⟨k, rfl, hk⟩ := within_nat b (Int.le_refl 0)
        exact ⟨k, .cDone, .cDone (by omega), fun s => rfl⟩
    · exfalso
      have e : PyKm356.shape p = none := by
        unfold PyKm356.shape
        rw [if_neg p0, if_neg p1, if_neg p2, if_neg p3, if_neg p4, if_neg p5, if_neg p6, if_neg p7]
      unfold PyFlat.call at h
      dsimp only at h
      rw [e] at h
      cases h

/-! ### the program's state: keepers, clients -/
abbrev Wd := List Keeper × List PCl
def kNew : Keeper := ⟨0, nothing⟩
def w0 : Wd := ([kNew, kNew, kNew, kNew], [PCl.fresh, PCl.fresh])
def pstep (w : Wd) (k : Nat) (x : Call) : Wd × List Int := match whose x with
  | 0 => ((w.1.set k (kDoes (w.1.getD k kNew) x).1, w.2), told (kDoes (w.1.getD k kNew) x).2)
  | _ => ((w.1, w.2.set k ((w.2.getD k PCl.fresh).does x).1), ((w.2.getD k PCl.fresh).does x).2)
structure WRel (s : Km356Neutral.S) (w : Wd) : Prop where
  l1 : s.1.length = 4
  l2 : w.1.length = 4
  l3 : s.2.length = 2
  l4 : w.2.length = 2
  ks : ∀ k a, s.1.getD k none = some a → w.1.getD k kNew = a
  kn : ∀ k, s.1.getD k none = none → w.1.getD k kNew = kNew
  cs : ∀ k a, s.2.getD k none = some a → Rel a (w.2.getD k PCl.fresh)
theorem wrel0 : WRel Km356Neutral.start w0 := by
  refine ⟨rfl, rfl, rfl, rfl, fun k a h => ?_, fun k _ => ?_, fun k a h => ?_⟩
  · match k, h with
    | 0, h => cases h
    | 1, h => cases h
    | 2, h => cases h
    | 3, h => cases h
    | k + 4, h => simp [Km356Neutral.start] at h
  · match k with
    | 0 => rfl
    | 1 => rfl
    | 2 => rfl
    | 3 => rfl
    | k + 4 => simp [w0]
  · match k, h with
    | 0, h => cases h
    | 1, h => cases h
    | k + 2, h => simp [Km356Neutral.start] at h
theorem getD_set {α : Type} {l : List α} {k j : Nat} {d y : α} (h : k < l.length) : (l.set k y).getD j d = if j = k then y else l.getD j d := by
  rw [List.getD_eq_getElem?_getD, List.getD_eq_getElem?_getD]
  by_cases e : j = k
  · subst e
    rw [List.getElem?_set_self h, if_pos rfl]
    rfl
  · rw [List.getElem?_set_ne fun q => e q.symm, if_neg e]
theorem set_getD {α : Type} {l : List α} {k : Nat} {d : α} : l.set k (l.getD k d) = l := by
  by_cases h : k < l.length
  · rw [List.getD_eq_getElem?_getD, List.getElem?_eq_getElem h]
    exact List.set_getElem_self h
  · rw [List.set_eq_of_length_le (by omega)]
theorem kstart_eq (a : Keeper) (me : Nat) : (kDoes a (.kStart me) = (a, only (-22))) ∨ (kDoes a (.kStart me) = (⟨me, nothing⟩, only 0)) := by
  show (if KEEPERS ≤ me then (a, only (-22)) else (⟨me, nothing⟩, only 0)) = _ ∨ _
  by_cases h : KEEPERS ≤ me
  · exact .inl (if_pos h)
  · exact .inr (if_neg h)
theorem step_rel {s : Km356Neutral.S} {w : Wd} (R : WRel s w) {r t : List Int} {k : Nat} {x : Call} (N : Nxt r k x t) (hne : (stepOf s k x).2.isEmpty = false) : (stepOf s k x).2 = (pstep w k x).2 ∧ WRel (stepOf s k x).1 (pstep w k x).1 := by
  have fine := N.fine
  have hwk : (whose x = 0 ∧ k < 4) ∨ (whose x = 1 ∧ k < 2) := by cases N <;> first | exact .inl ⟨rfl, by assumption⟩ | exact .inr ⟨rfl, by assumption⟩
  rcases hwk with ⟨hw, hk⟩ | ⟨hw, hk⟩
  · have e1 : stepOf s k x = Km356Neutral.step0 s k x := by unfold stepOf; rw [hw] <;> rfl
    have e2 : pstep w k x = ((w.1.set k (kDoes (w.1.getD k kNew) x).1, w.2), told (kDoes (w.1.getD k kNew) x).2) := by unfold pstep; rw [hw] <;> rfl
    rw [e1] at hne ⊢
    rw [e2]
    unfold Km356Neutral.step0 at hne ⊢
    rw [if_neg (by omega)] at hne ⊢
    have hk1 : k < s.1.length := by rw [R.l1]; exact hk
    have hk2 : k < w.1.length := by rw [R.l2]; exact hk
    cases h : s.1.getD k none with
    | some a =>
      rw [h] at hne
      dsimp only
      rw [R.ks k a h]
      refine ⟨rfl, ⟨by rw [List.length_set]; exact R.l1, by rw [List.length_set]; exact R.l2, R.l3, R.l4, fun j b hj => ?_, fun j hj => ?_, R.cs⟩⟩
      · rw [getD_set hk1] at hj
        rw [getD_set hk2]
        split at hj
        · next q => rw [if_pos q]; exact Option.some.inj hj
        · next q => rw [if_neg q]; exact R.ks j b hj
      · rw [getD_set hk1] at hj
        rw [getD_set hk2]
        split at hj
        · cases hj
        · next q => rw [if_neg q]; exact R.kn j hj
    | none =>
      rw [h] at hne
      dsimp only at hne ⊢
      by_cases st : isStart x = true
      · rw [if_pos st] at hne ⊢
        rw [R.kn k h]
        show told (kDoes kNew x).2 = told (kDoes kNew x).2 ∧ WRel (if (told (kDoes kNew x).2).headD 0 < 0 then s else (s.1.set k (some (kDoes kNew x).1), s.2)) _
        refine ⟨rfl, ?_⟩
        have hx : ∃ me, x = .kStart me := by cases x <;> first | exact ⟨_, rfl⟩ | exact Bool.noConfusion st | exact absurd hw (show ¬ (1 = 0) by decide)
        obtain ⟨me, rfl⟩ := hx
        rcases kstart_eq kNew me with e | e
        · rw [e]
          have : w.1.set k kNew = w.1 := by
            have := set_getD (l := w.1) (k := k) (d := kNew)
            rw [R.kn k h] at this
            exact this
          show WRel (if (-22 : Int) < 0 then s else _) (w.1.set k kNew, w.2)
          rw [if_pos (by decide), this]
          exact R
        · rw [e]
          show WRel (if (0 : Int) < 0 then s else (s.1.set k (some ⟨me, nothing⟩), s.2)) (w.1.set k ⟨me, nothing⟩, w.2)
          rw [if_neg (by decide)]
          refine ⟨by rw [List.length_set]; exact R.l1, by rw [List.length_set]; exact R.l2, R.l3, R.l4, fun j b hj => ?_, fun j hj => ?_, R.cs⟩
          · rw [getD_set hk1] at hj
            rw [getD_set hk2]
            split at hj
            · next q => rw [if_pos q]; exact Option.some.inj hj
            · next q => rw [if_neg q]; exact R.ks j b hj
          · rw [getD_set hk1] at hj
            rw [getD_set hk2]
            split at hj
            · cases hj
            · next q => rw [if_neg q]; exact R.kn j hj
      · rw [if_neg st] at hne
        cases hne
  · have e1 : stepOf s k x = Km356Neutral.step1 s k x := by unfold stepOf; rw [hw] <;> rfl
    have e2 : pstep w k x = ((w.1, w.2.set k ((w.2.getD k PCl.fresh).does x).1), ((w.2.getD k PCl.fresh).does x).2) := by unfold pstep; rw [hw] <;> rfl
    rw [e1] at hne ⊢
    rw [e2]
    unfold Km356Neutral.step1 at hne ⊢
    rw [if_neg (by omega)] at hne ⊢
    have hk1 : k < s.2.length := by rw [R.l3]; exact hk
    have hk2 : k < w.2.length := by rw [R.l4]; exact hk
    cases h : s.2.getD k none with
    | some a =>
      rw [h] at hne
      dsimp only
      have D := does_rel (R.cs k a h) fine hw
      refine ⟨D.1, ⟨R.l1, R.l2, by rw [List.length_set]; exact R.l3, by rw [List.length_set]; exact R.l4, R.ks, R.kn, fun j b hj => ?_⟩⟩
      rw [getD_set hk1] at hj
      rw [getD_set hk2]
      split at hj
      · next q =>
        rw [if_pos q]
        have e := Option.some.inj hj
        rw [← e]
        exact D.2
      · next q => rw [if_neg q]; exact R.cs j b hj
    | none =>
      rw [h] at hne
      dsimp only at hne ⊢
      by_cases st : isStart x = true
      · rw [if_pos st] at hne ⊢
        have hx : ∃ me n, x = .cStart me n := by cases x <;> first | exact ⟨_, _, rfl⟩ | exact Bool.noConfusion st | exact absurd hw (show ¬ (0 = 1) by decide)
        obtain ⟨me, n, rfl⟩ := hx
        show told (cDoes (client0 0 1) (.cStart me n)).2 = _ ∧ WRel (if (told (cDoes (client0 0 1) (.cStart me n)).2).headD 0 < 0 then s else (s.1, s.2.set k (some (cDoes (client0 0 1) (.cStart me n)).1))) _
        have S := start_rel (client0 0 1) (w.2.getD k PCl.fresh) me n
        refine ⟨S.1, ?_⟩
        rw [S.1]
        rcases S.2 with ⟨_, h2, h3⟩ | ⟨h2, h3⟩
        · rw [h2, h3, set_getD]
          show WRel (if (-22 : Int) < 0 then s else _) _
          rw [if_pos (by decide)]
          exact R
        · rw [h3]
          show WRel (if (0 : Int) < 0 then s else _) _
          rw [if_neg (by decide)]
          refine ⟨R.l1, R.l2, by rw [List.length_set]; exact R.l3, by rw [List.length_set]; exact R.l4, R.ks, R.kn, fun j b hj => ?_⟩
          rw [getD_set hk1] at hj
          rw [getD_set hk2]
          split at hj
          · next q =>
            rw [if_pos q]
            have e := Option.some.inj hj
            rw [← e]
            exact h2
          · next q => rw [if_neg q]; exact R.cs j b hj
      · rw [if_neg st] at hne
        cases hne

/-! ### the loop -/
/-- what was answered and what is due of the rest are all that's due -/
def Left (total out rest : List Int) (w : Wd) : Prop := ∃ s cs f, WRel s w ∧ PyFlat.calls PyKm356.shape f rest = some cs ∧ cs.all (PyInside.call PyKm356.bound) = true ∧ Km356Neutral.may s (cs.map PyKm356.whole) = true ∧
  total = out ++ PyFlat.told (PyFlat.played Km356Neutral.step s (cs.map PyKm356.whole))
theorem left0 {l : List Int} (h : PyKm356.answers_asked l = true) : Left (PyKm356.answers l) [] l w0 ∧ (PyKm356.answers l).length ≤ 10000000 := by
  unfold PyKm356.answers_asked at h
  cases e : PyFlat.calls PyKm356.shape l.length l with
  | none => rw [e] at h; cases h
  | some raw =>
    rw [e] at h
    simp only [Bool.and_eq_true] at h
    obtain ⟨⟨⟨⟨_, _⟩, hb⟩, ha⟩, hs⟩ := h
    refine ⟨⟨Km356Neutral.start, raw, l.length, wrel0, e, hb, ?_, ?_⟩, ?_⟩
    · unfold Km356Neutral.asked at ha
      simp only [Bool.and_eq_true] at ha
      exact ha.2.2.2
    · unfold PyKm356.answers PyKm356.calls
      rw [e]
      rfl
    · unfold PyFlat.short at hs
      exact of_decide_eq_true hs
theorem left_end {total out : List Int} {w : Wd} (h : Left total out [] w) : total = out := by
  obtain ⟨s, cs, f, _, e, _, _, q⟩ := h
  have : cs = [] := by
    unfold PyFlat.calls at e
    cases f <;> exact (Option.some.inj e).symm
  subst this
  rw [q]
  exact List.append_nil _
theorem left_step {total out : List Int} {p : Int} {r : List Int} {w : Wd} (h : Left total out (p :: r) w) :
    ∃ k x t, Nxt (p :: r) k x t ∧ Left total (out ++ (((pstep w k x).2.length : Int) :: (pstep w k x).2)) t (pstep w k x).1 ∧ (out ++ (((pstep w k x).2.length : Int) :: (pstep w k x).2)).length ≤ total.length := by
  obtain ⟨s, cs, f, R, e, hb, hm, q⟩ := h
  cases f with
  | zero => cases e
  | succ f =>
    unfold PyFlat.calls at e
    cases e1 : PyFlat.call PyKm356.shape (p :: r) with
    | none => rw [e1] at e; cases e
    | some ct =>
      obtain ⟨c, t⟩ := ct
      rw [e1] at e
      dsimp only at e
      cases e2 : PyFlat.calls PyKm356.shape f t with
      | none => rw [e2] at e; cases e
      | some cs' =>
        rw [e2] at e
        cases e
        rw [List.all_cons, Bool.and_eq_true] at hb
        obtain ⟨k, x, N, hs⟩ := next_of e1 hb.1
        have hm' : (!((Km356Neutral.step s (PyKm356.whole c)).2.isEmpty) && Km356Neutral.may (Km356Neutral.step s (PyKm356.whole c)).1 (cs'.map PyKm356.whole)) = true := hm
        rw [Bool.and_eq_true, Bool.not_eq_true', hs] at hm'
        obtain ⟨a, R'⟩ := step_rel R N hm'.1
        have q' : total = out ++ ((((stepOf s k x).2.length : Int) :: (stepOf s k x).2) ++ PyFlat.told (PyFlat.played Km356Neutral.step (stepOf s k x).1 (cs'.map PyKm356.whole))) := by
          rw [q, ← hs]
          rfl
        rw [a] at q'
        refine ⟨k, x, t, N, ⟨_, cs', f, R', e2, hb.2, hm'.2, ?_⟩, ?_⟩
        · rw [q', List.append_assoc]
        · rw [q', ← List.append_assoc]
          exact Nat.le_trans (Nat.le_add_right _ _) (Nat.le_of_eq List.length_append.symm)
end Mr

/-! The program's objects in the heap, and what each def promises. -/
namespace Pf
open PySem PySem.Spec PyProof.Rows L2
open Km356 (Held Message nothing le num crc messageOf later kDoes)
open Mr (POp PCl allB)
open PySem.W (Frag)
abbrev Kpr := Km356.Keeper

/-! ### the text by its places -/
def top (i : Nat) : Stmt := PySem.Challenge.pw_mostcell_s01_answers.main.body.getD i (.Pass ⟨0, 0, 0, 0⟩)
abbrev sCrc : Stmt := top 3
abbrev sEight : Stmt := top 4
abbrev sMI : Stmt := inClass (top 14) 0
abbrev sBytes : Stmt := top 15
abbrev sRight : Stmt := top 16
abbrev sIsQ : Stmt := top 17
abbrev sWithin : Stmt := top 18
abbrev sZeros : Stmt := top 19
abbrev sNum : Stmt := top 20
abbrev sLow : Stmt := top 21
abbrev sOI : Stmt := inClass (top 24) 0
abbrev sOG : Stmt := inClass (top 24) 1
abbrev sOA : Stmt := inClass (top 24) 2
abbrev sOK : Stmt := inClass (top 24) 3
abbrev sOM : Stmt := inClass (top 24) 4
abbrev sOT : Stmt := inClass (top 24) 5
abbrev sCI : Stmt := inClass (top 34) 0
abbrev sCS : Stmt := inClass (top 34) 1
abbrev sCR : Stmt := inClass (top 34) 2
abbrev sCW : Stmt := inClass (top 34) 3
abbrev sCY : Stmt := inClass (top 34) 4
abbrev sCH : Stmt := inClass (top 34) 5
abbrev sCD : Stmt := inClass (top 34) 6
abbrev sCB : Stmt := inClass (top 34) 7
abbrev sCG : Stmt := inClass (top 34) 8
abbrev sCA : Stmt := inClass (top 34) 9
abbrev sKI : Stmt := inClass (top 36) 0
abbrev sKS : Stmt := inClass (top 36) 1
abbrev sKH : Stmt := inClass (top 36) 2
abbrev sKO : Stmt := inClass (top 36) 3
abbrev sRI : Stmt := inClass (top 38) 0
abbrev sRM : Stmt := inClass (top 38) 1
abbrev sRN : Stmt := inClass (top 38) 2
abbrev sRR : Stmt := inClass (top 38) 3
abbrev sAns : Stmt := top 51
abbrev sNext : Stmt := top 52
abbrev sCallK : Stmt := top 53
abbrev sCallC : Stmt := top 54

/-! ### fields -/
theorem lk_here {k : Str} {v : V} {r : List (Str × V)} : List.lookup k ((k, v) :: r) = some v := by
  have e : (k == k) = true := beq_self_eq_true k
  simp only [List.lookup, e]
theorem lk_past {k g : Str} {v : V} {r : List (Str × V)} {o : Option V} (h : (k == g) = false) (q : List.lookup k r = o) : List.lookup k ((g, v) :: r) = o := by
  simp only [List.lookup, h]
  exact q
theorem put_here {f : Str} {v x : V} {r : List (Str × V)} : putF f v ((f, x) :: r) = (f, v) :: r := if_pos rfl
theorem put_past {f g : Str} {v x : V} {r s : List (Str × V)} (h : ¬ g = f) (q : putF f v r = s) : putF f v ((g, x) :: r) = (g, x) :: s := by
  rw [← q]
  exact if_neg h
theorem put_nil {f : Str} {v : V} : putF f v [] = [(f, v)] := rfl

def mF (m : Message) (t : Addr) : List (Str × V) := [("kind", .int m.kind), ("client", .int m.client), ("keeper", .int m.keeper), ("operation", .int m.op), ("stamp", .ref t), ("value", .int m.held.value)]
def kF (k : Kpr) (t : Addr) : List (Str × V) := [("me", .int k.me), ("stamp", .ref t), ("value", .int k.held.value)]
def oV : Option Nat → V
  | none => .non
  | some v => .int v
def oF (o : POp) (l t : Addr) : List (Str × V) := [("client", .int o.client), ("own_value", oV o.own), ("asking", .int o.asking), ("answered", .ref l), ("stamp", .ref t), ("value", .int o.held.value), ("is_done", .bl o.done)]
def cF (p : PCl) (v : V) : List (Str × V) := [("me", .int p.me), ("keepers", .int p.keepers), ("begun", .int p.begun), ("last", v)]
def rF (a : Addr) (i : Nat) : List (Str × V) := [("calls", .ref a), ("at", .int i)]
def nv (l : List Nat) : List V := l.map fun (n : Nat) => V.int n
def iv (l : List Int) : List V := l.map V.int

section
variable {m : Message} {t l a : Addr} {k : Kpr} {o : POp} {p : PCl} {v x : V} {i : Nat}
theorem mF_kind : (mF m t).lookup ("kind" : Str) = some (.int m.kind) := lk_here
theorem mF_client : (mF m t).lookup ("client" : Str) = some (.int m.client) := lk_past (by decide +kernel) lk_here
theorem mF_keeper : (mF m t).lookup ("keeper" : Str) = some (.int m.keeper) := lk_past (by decide +kernel) (lk_past (by decide +kernel) lk_here)
theorem mF_op : (mF m t).lookup ("operation" : Str) = some (.int m.op) := lk_past (by decide +kernel) (lk_past (by decide +kernel) (lk_past (by decide +kernel) lk_here))
theorem mF_stamp : (mF m t).lookup ("stamp" : Str) = some (.ref t) := lk_past (by decide +kernel) (lk_past (by decide +kernel) (lk_past (by decide +kernel) (lk_past (by decide +kernel) lk_here)))
theorem mF_value : (mF m t).lookup ("value" : Str) = some (.int m.held.value) := lk_past (by decide +kernel) (lk_past (by decide +kernel) (lk_past (by decide +kernel) (lk_past (by decide +kernel) (lk_past (by decide +kernel) lk_here))))
theorem kF_me : (kF k t).lookup ("me" : Str) = some (.int k.me) := lk_here
theorem kF_stamp : (kF k t).lookup ("stamp" : Str) = some (.ref t) := lk_past (by decide +kernel) lk_here
theorem kF_value : (kF k t).lookup ("value" : Str) = some (.int k.held.value) := lk_past (by decide +kernel) (lk_past (by decide +kernel) lk_here)
theorem kF_no {n : Str} (h1 : (n == ("me" : Str)) = false := by decide +kernel) (h2 : (n == ("stamp" : Str)) = false := by decide +kernel) (h3 : (n == ("value" : Str)) = false := by decide +kernel) : (kF k t).lookup n = none := lk_past h1 (lk_past h2 (lk_past h3 rfl))
theorem oF_client : (oF o l t).lookup ("client" : Str) = some (.int o.client) := lk_here
theorem oF_own : (oF o l t).lookup ("own_value" : Str) = some (oV o.own) := lk_past (by decide +kernel) lk_here
theorem oF_asking : (oF o l t).lookup ("asking" : Str) = some (.int o.asking) := lk_past (by decide +kernel) (lk_past (by decide +kernel) lk_here)
theorem oF_answered : (oF o l t).lookup ("answered" : Str) = some (.ref l) := lk_past (by decide +kernel) (lk_past (by decide +kernel) (lk_past (by decide +kernel) lk_here))
theorem oF_stamp : (oF o l t).lookup ("stamp" : Str) = some (.ref t) := lk_past (by decide +kernel) (lk_past (by decide +kernel) (lk_past (by decide +kernel) (lk_past (by decide +kernel) lk_here)))
theorem oF_value : (oF o l t).lookup ("value" : Str) = some (.int o.held.value) := lk_past (by decide +kernel) (lk_past (by decide +kernel) (lk_past (by decide +kernel) (lk_past (by decide +kernel) (lk_past (by decide +kernel) lk_here))))
theorem oF_done : (oF o l t).lookup ("is_done" : Str) = some (.bl o.done) := lk_past (by decide +kernel) (lk_past (by decide +kernel) (lk_past (by decide +kernel) (lk_past (by decide +kernel) (lk_past (by decide +kernel) (lk_past (by decide +kernel) lk_here)))))
theorem oF_no {n : Str} (h1 : (n == ("client" : Str)) = false := by decide +kernel) (h2 : (n == ("own_value" : Str)) = false := by decide +kernel) (h3 : (n == ("asking" : Str)) = false := by decide +kernel) (h4 : (n == ("answered" : Str)) = false := by decide +kernel)
    (h5 : (n == ("stamp" : Str)) = false := by decide +kernel) (h6 : (n == ("value" : Str)) = false := by decide +kernel) (h7 : (n == ("is_done" : Str)) = false := by decide +kernel) : (oF o l t).lookup n = none := lk_past h1 (lk_past h2 (lk_past h3 (lk_past h4 (lk_past h5 (lk_past h6 (lk_past h7 rfl))))))
theorem cF_me : (cF p v).lookup ("me" : Str) = some (.int p.me) := lk_here
theorem cF_keepers : (cF p v).lookup ("keepers" : Str) = some (.int p.keepers) := lk_past (by decide +kernel) lk_here
theorem cF_begun : (cF p v).lookup ("begun" : Str) = some (.int p.begun) := lk_past (by decide +kernel) (lk_past (by decide +kernel) lk_here)
theorem cF_last : (cF p v).lookup ("last" : Str) = some v := lk_past (by decide +kernel) (lk_past (by decide +kernel) (lk_past (by decide +kernel) lk_here))
theorem cF_no {n : Str} (h1 : (n == ("me" : Str)) = false := by decide +kernel) (h2 : (n == ("keepers" : Str)) = false := by decide +kernel) (h3 : (n == ("begun" : Str)) = false := by decide +kernel) (h4 : (n == ("last" : Str)) = false := by decide +kernel) : (cF p v).lookup n = none := lk_past h1 (lk_past h2 (lk_past h3 (lk_past h4 rfl)))
theorem rF_calls : (rF a i).lookup ("calls" : Str) = some (.ref a) := lk_here
theorem rF_at : (rF a i).lookup ("at" : Str) = some (.int i) := lk_past (by decide +kernel) lk_here
theorem rF_no {n : Str} (h1 : (n == ("calls" : Str)) = false := by decide +kernel) (h2 : (n == ("at" : Str)) = false := by decide +kernel) : (rF a i).lookup n = none := lk_past h1 (lk_past h2 rfl)
end

/-! ### objects -/
def StAt (H : Hp) (t : Addr) (s : Km356.Stamp) : Prop := H t = some (.tup [.int s.number, .int s.client])
def MAt (C : Addr) (H : Hp) (a : Addr) (m : Message) : Prop := ∃ dx t, H a = some (.ins C dx (mF m t)) ∧ StAt H t m.held.stamp
def KAt (C : Addr) (H : Hp) (a : Addr) (k : Kpr) : Prop := ∃ dx t, H a = some (.ins C dx (kF k t)) ∧ StAt H t k.held.stamp
def OAt (C : Addr) (H : Hp) (a : Addr) (o : POp) (l : Addr) : Prop := ∃ dx t, H a = some (.ins C dx (oF o l t)) ∧ H l = some (.lst (nv o.answered)) ∧ StAt H t o.held.stamp
/-- the client at c; fp: all objects that are its own and change -/
def CAt (CC CO : Addr) (H : Hp) (c : Addr) (p : PCl) (fp : List Addr) : Prop := ∃ dx v, H c = some (.ins CC dx (cF p v)) ∧
  match p.last with
  | none => v = .non ∧ fp = [c]
  | some o => ∃ a l, v = .ref a ∧ fp = [c, a, l] ∧ OAt CO H a o l
def RAt (C : Addr) (H : Hp) (r a : Addr) (i : Nat) : Prop := ∃ dx, H r = some (.ins C dx (rF a i))

/-- what was tracked stays, but for the objects fp (tuples never change) -/
def Keep (fp : List Addr) (H H' : Hp) : Prop := ∀ b o, H b = some o → (b ∈ fp → ∃ xs, o = .tup xs) → H' b = some o
theorem Keep.refl (H : Hp) (fp : List Addr) : Keep fp H H := fun _ _ e _ => e
theorem Keep.same {fp : List Addr} {H H' : Hp} (h : Same H H') : Keep fp H H' := fun b o e _ => h b o e
theorem Keep.nil {H H' : Hp} (h : Keep [] H H') : Same H H' := fun b o e => h b o e fun q => nomatch q
theorem Keep.mono {fp fp' : List Addr} {H H' : Hp} (h : Keep fp H H') (s : ∀ x ∈ fp, x ∈ fp' ∨ H x = none) : Keep fp' H H' := fun b o e c => h b o e fun q => by
  rcases s b q with z | z
  · exact c z
  · rw [z] at e; cases e
theorem Keep.trans {fp fp' : List Addr} {H H1 H2 : Hp} (h : Keep fp H H1) (g : Keep fp' H1 H2) (s : ∀ x ∈ fp', x ∈ fp ∨ H x = none) : Keep fp H H2 := fun b o e c => g b o (h b o e c) fun q => by
  rcases s b q with z | z
  · exact c z
  · rw [z] at e; cases e
theorem Keep.trans1 {fp : List Addr} {H H1 H2 : Hp} (h : Keep fp H H1) (g : Keep fp H1 H2) : Keep fp H H2 := h.trans g fun _ q => .inl q
theorem Keep.new {fp : List Addr} {H : Hp} {a : Addr} {o : HO} (h : H a = none) : Keep fp H (upd H a o) := fun b u e _ => by
  rw [upd_ne (ne_of_none e h)]
  exact e
theorem Keep.set {fp : List Addr} {H : Hp} {a : Addr} {o u : HO} (h : H a = some u) (n : ∀ xs, u ≠ .tup xs) (m : a ∈ fp) : Keep fp H (upd H a o) := fun b w e c => by
  by_cases q : b = a
  · subst q
    obtain ⟨xs, z⟩ := c m
    rw [h] at e
    exact absurd (Option.some.inj e |>.trans z) (n xs)
  · rw [upd_ne q]
    exact e
theorem Keep.ins {fp : List Addr} {H : Hp} {a C dx : Addr} {fs : List (Str × V)} {o : HO} (h : H a = some (.ins C dx fs)) (m : a ∈ fp) : Keep fp H (upd H a o) := Keep.set h (fun _ q => nomatch q) m
theorem Keep.lst {fp : List Addr} {H : Hp} {a : Addr} {xs : List V} {o : HO} (h : H a = some (.lst xs)) (m : a ∈ fp) : Keep fp H (upd H a o) := Keep.set h (fun _ q => nomatch q) m
theorem Keep.free {fp : List Addr} {H H' : Hp} (h : Keep fp H H') {a : Addr} (n : H' a = none) (m : a ∉ fp) : H a = none := by
  cases e : H a with
  | none => rfl
  | some o =>
    rw [h a o e fun q => absurd q m] at n
    cases n
/-- a new instance and its __init__ -/
theorem Keep.made {H H' : Hp} {x dx C : Addr} (nx : H x = none) (nd : H dx = none) (h : Keep [x] (upd (upd H dx (.own x)) x (.ins C dx [])) H') : Keep [] H H' := fun b o e _ =>
  h b o (by rw [upd_ne (ne_of_none e nx), upd_ne (ne_of_none e nd)]; exact e) fun q => by
    rw [List.mem_singleton] at q
    rw [q, nx] at e
    cases e
theorem StAt.keep {fp : List Addr} {H H' : Hp} {t : Addr} {s : Km356.Stamp} (h : StAt H t s) (k : Keep fp H H') : StAt H' t s := k _ _ h fun _ => ⟨_, rfl⟩
theorem MAt.keep {fp : List Addr} {H H' : Hp} {C a : Addr} {m : Message} (h : MAt C H a m) (k : Keep fp H H') (n : a ∉ fp) : MAt C H' a m := by
  obtain ⟨dx, t, h1, h2⟩ := h
  exact ⟨dx, t, k _ _ h1 fun q => absurd q n, h2.keep k⟩
theorem MAt.same {H H' : Hp} {C a : Addr} {m : Message} (h : MAt C H a m) (k : Keep [] H H') : MAt C H' a m := h.keep k (by simp)
theorem KAt.keep {fp : List Addr} {H H' : Hp} {C a : Addr} {m : Kpr} (h : KAt C H a m) (k : Keep fp H H') (n : a ∉ fp) : KAt C H' a m := by
  obtain ⟨dx, t, h1, h2⟩ := h
  exact ⟨dx, t, k _ _ h1 fun q => absurd q n, h2.keep k⟩
theorem KAt.same {H H' : Hp} {C a : Addr} {m : Kpr} (h : KAt C H a m) (k : Keep [] H H') : KAt C H' a m := h.keep k (by simp)
theorem OAt.keep {fp : List Addr} {H H' : Hp} {C a l : Addr} {o : POp} (h : OAt C H a o l) (k : Keep fp H H') (n : a ∉ fp) (n2 : l ∉ fp) : OAt C H' a o l := by
  obtain ⟨dx, t, h1, h2, h3⟩ := h
  exact ⟨dx, t, k _ _ h1 fun q => absurd q n, k _ _ h2 fun q => absurd q n2, h3.keep k⟩
theorem CAt.keep {fs fp : List Addr} {H H' : Hp} {CC CO c : Addr} {p : PCl} (h : CAt CC CO H c p fp) (k : Keep fs H H') (n : ∀ x ∈ fp, x ∉ fs) : CAt CC CO H' c p fp := by
  obtain ⟨dx, v, h1, h2⟩ := h
  cases e : p.last with
  | none =>
    rw [e] at h2
    obtain ⟨rfl, rfl⟩ := h2
    exact ⟨dx, _, k _ _ h1 fun q => absurd q (n c (by simp)), by rw [e]; exact ⟨rfl, rfl⟩⟩
  | some o =>
    rw [e] at h2
    obtain ⟨a, l, rfl, rfl, h3⟩ := h2
    exact ⟨dx, _, k _ _ h1 fun q => absurd q (n c (by simp)), by rw [e]; exact ⟨a, l, rfl, rfl, h3.keep k (n a (by simp)) (n l (by simp))⟩⟩
theorem CAt.same {fp : List Addr} {H H' : Hp} {CC CO c : Addr} {p : PCl} (h : CAt CC CO H c p fp) (k : Keep [] H H') : CAt CC CO H' c p fp := h.keep k fun _ _ => by simp
theorem CAt.mem {fp : List Addr} {H : Hp} {CC CO c : Addr} {p : PCl} (h : CAt CC CO H c p fp) : c ∈ fp := by
  obtain ⟨dx, v, h1, h2⟩ := h
  cases e : p.last with
  | none => rw [e] at h2; rw [h2.2]; simp
  | some o => rw [e] at h2; obtain ⟨a, l, _, q, _⟩ := h2; rw [q]; simp
/-- what a client's own objects are -/
theorem CAt.kinds {fp : List Addr} {H : Hp} {CC CO c : Addr} {p : PCl} (h : CAt CC CO H c p fp) {x : Addr} (hx : x ∈ fp) : (∃ C dx v, H x = some (.ins C dx (cF p v))) ∨ (∃ C dx o l t, H x = some (.ins C dx (oF o l t))) ∨ (∃ ns, H x = some (.lst (nv ns))) := by
  obtain ⟨dx, v, h1, h2⟩ := h
  cases e : p.last with
  | none =>
    rw [e] at h2
    obtain ⟨_, rfl⟩ := h2
    rw [List.mem_singleton] at hx
    subst hx
    exact .inl ⟨_, _, _, h1⟩
  | some o =>
    rw [e] at h2
    obtain ⟨a, l, rfl, rfl, dx2, t, h3, h4, _⟩ := h2
    simp only [List.mem_cons, List.not_mem_nil, or_false] at hx
    rcases hx with rfl | rfl | rfl
    · exact .inl ⟨_, _, _, h1⟩
    · exact .inr (.inl ⟨_, _, _, _, _, h3⟩)
    · exact .inr (.inr ⟨_, h4⟩)
theorem RAt.keep {fp : List Addr} {H H' : Hp} {C r a : Addr} {i : Nat} (h : RAt C H r a i) (k : Keep fp H H') (n : r ∉ fp) : RAt C H' r a i := by
  obtain ⟨dx, h1⟩ := h
  exact ⟨dx, k _ _ h1 fun q => absurd q n⟩
theorem sql_same {K : Frag} {H H' : Hp} {a : Addr} {xs : List V} (h : SqL K H a xs) (k : Keep [] H H') : SqL K H' a xs := k.nil.seq h
/-- a list is no instance -/
theorem sql_ins {K : Frag} {H H' : Hp} {a r C dx : Addr} {fs : List (Str × V)} {xs : List V} (h : SqL K H a xs) (e : H r = some (.ins C dx fs)) (k : Keep [r] H H') : SqL K H' a xs := by
  rcases h with (h | ⟨o, h⟩) | h
  · exact .inl (.inl (k _ _ h fun q => by rw [List.mem_singleton] at q; rw [q, e] at h; cases h))
  · exact .inl (.inr ⟨o, k _ _ h fun q => by rw [List.mem_singleton] at q; rw [q, e] at h; cases h⟩)
  · exact .inr h

/-! ### the places of classes and constants -/
structure Ad where
  M : Addr
  O : Addr
  C : Addr
  K : Addr
  R : Addr
def cst (mg : Str → Option Value) (x : Str) (n : Int) : Prop := ∃ t, mg x = some (.int n t)
structure Txt (K : Frag) (mg : Str → Option Value) (A : Ad) : Prop where
  range : mg "range" = none
  len : mg "len" = none
  POLY : cst mg "POLYNOMIAL" 2197175160
  ONES : cst mg "ALL_ONES" 4294967295
  ASK : cst mg "ASK" 1
  HOLDS : cst mg "HOLDS" 2
  TELL : cst mg "TELL" 3
  IS_HELD : cst mg "IS_HELD" 4
  GCLIENT : cst mg "GREATEST_CLIENT" 15
  GKEEPER : cst mg "GREATEST_KEEPER" 14
  GNUMBER : cst mg "GREATEST_NUMBER" 4294967295
  CHECK : cst mg "CHECK_AT" 20
  NOTHING : cst mg "NOTHING" 0
  NOT_NOW : cst mg "NOT_NOW" (-11)
  GOES_ON : cst mg "GOES_ON" (-16)
  RANGE : cst mg "OUT_OF_RANGE" (-22)
  USED_UP : cst mg "USED_UP" (-28)
  WRONG : cst mg "WRONG_MESSAGE" (-71)
  COULD : cst mg "COULD_NOT_BE_DONE" (-75)
  GCOUNT : cst mg "GREATEST_COUNT_OF_KEEPERS" 15
  GOP : cst mg "GREATEST_OPERATION" 4294967295
  KEEPERS : cst mg "KEEPERS" 4
  CLIENTS : cst mg "CLIENTS" 2
  QK_START : cst mg "QK_START" 0
  QK_HEARD : cst mg "QK_HEARD" 1
  QC_START : cst mg "QC_START" 2
  QC_READ : cst mg "QC_READ" 3
  QC_WRITE : cst mg "QC_WRITE" 4
  QC_SAY : cst mg "QC_SAY" 5
  QC_HEARD : cst mg "QC_HEARD" 6
  QC_DONE : cst mg "QC_DONE" 7
  clM : Cls K A.M
  Mkind : NoAttr K A.M "kind"
  Mclient : NoAttr K A.M "client"
  Mkeeper : NoAttr K A.M "keeper"
  Mop : NoAttr K A.M "operation"
  Mstamp : NoAttr K A.M "stamp"
  Mvalue : NoAttr K A.M "value"
  clO : Cls K A.O
  Oclient : NoAttr K A.O "client"
  Oown : NoAttr K A.O "own_value"
  Oasking : NoAttr K A.O "asking"
  Oanswered : NoAttr K A.O "answered"
  Ostamp : NoAttr K A.O "stamp"
  Ovalue : NoAttr K A.O "value"
  Odone : NoAttr K A.O "is_done"
  clC : Cls K A.C
  Cme : NoAttr K A.C "me"
  Ckeepers : NoAttr K A.C "keepers"
  Cbegun : NoAttr K A.C "begun"
  Clast : NoAttr K A.C "last"
  clK : Cls K A.K
  Kme : NoAttr K A.K "me"
  Kstamp : NoAttr K A.K "stamp"
  Kvalue : NoAttr K A.K "value"
  clR : Cls K A.R
  Rcalls : NoAttr K A.R "calls"
  Rat : NoAttr K A.R "at"

/-! ### promises -/
def spEight : Sp := fun vs H Q _ => ∃ c : Nat, vs = [.int c] ∧ Q (.int (Mr.eight c)) H
def spCrc (K : Frag) : Sp := fun vs H Q _ => ∃ (a : Addr) (l : List Nat), vs = [.ref a] ∧ SqL K H a (nv l) ∧ Q (.int (crc l)) H
def spLow : Sp := fun vs H Q _ => ∃ v w : Nat, vs = [.int v, .int w] ∧ w ≤ 8 ∧ ∀ (H' : Hp) (p : Addr), H p = none → H' p = some (.lst (nv (le w v))) → Keep [] H H' → Q (.ref p) H'
def spNum (K : Frag) : Sp := fun vs H Q _ => ∃ (a : Addr) (l : List Nat) (k w : Nat), vs = [.ref a, .int k, .int w] ∧ SqL K H a (nv l) ∧ allB l ∧ k + w ≤ l.length ∧ w ≤ 8 ∧ Q (.int (num l k w)) H
def spMI (C : Addr) : Sp := fun vs H Q _ => ∃ (p dx t : Addr) (m : Message), vs = [.ref p, .int m.kind, .int m.client, .int m.keeper, .int m.op, .ref t, .int m.held.value] ∧ H p = some (.ins C dx []) ∧ StAt H t m.held.stamp ∧
  ∀ H' : Hp, MAt C H' p m → Keep [p] H H' → Q .non H'
def spBytes (C : Addr) : Sp := fun vs H Q _ => ∃ (a : Addr) (m : Message), vs = [.ref a] ∧ MAt C H a m ∧ ∀ (H' : Hp) (p : Addr), H p = none → H' p = some (.lst (nv m.bytes)) → Keep [] H H' → Q (.ref p) H'
def spRight (K : Frag) (C : Addr) : Sp := fun vs H Q _ => ∃ (a : Addr) (l : List Nat), vs = [.ref a] ∧ SqL K H a (nv l) ∧ l.length = 24 ∧ allB l ∧
  (messageOf l = none → ∀ H' : Hp, Keep [] H H' → Q .non H') ∧ (∀ m, messageOf l = some m → ∀ (H' : Hp) (p : Addr), MAt C H' p m → H p = none → Keep [] H H' → Q (.ref p) H')
def spTest (C : Addr) (f : Message → Bool) : Sp := fun vs H Q _ => ∃ (a : Addr) (m : Message), vs = [.ref a] ∧ MAt C H a m ∧ ∀ H' : Hp, Keep [] H H' → Q (.bl (f m)) H'
def spKI (C : Addr) : Sp := fun vs H Q _ => ∃ (p dx : Addr), vs = [.ref p] ∧ H p = some (.ins C dx []) ∧ ∀ H' : Hp, KAt C H' p Mr.kNew → Keep [p] H H' → Q .non H'
def spKS (C : Addr) : Sp := fun vs H Q _ => ∃ (a : Addr) (k : Kpr) (me : Nat), vs = [.ref a, .int me] ∧ KAt C H a k ∧ ∀ H' : Hp, KAt C H' a (kDoes k (.kStart me)).1 → Keep [a] H H' → Q (.int (kDoes k (.kStart me)).2.value) H'
def spKH (K : Frag) (C : Addr) : Sp := fun vs H Q _ => ∃ (a q : Addr) (k : Kpr) (l : List Nat), vs = [.ref a, .ref q] ∧ KAt C H a k ∧ SqL K H q (nv l) ∧ l.length = 24 ∧ allB l ∧
  ∀ (H' : Hp) (p : Addr), KAt C H' a (kDoes k (.kHeard l)).1 → H p = none → H' p = some (.lst (iv (Mr.told (kDoes k (.kHeard l)).2))) → Keep [a] H H' → Q (.ref p) H'
def spKO (C : Addr) : Sp := fun vs H Q _ => ∃ (a t : Addr) (k : Kpr) (h : Held), vs = [.ref a, .ref t, .int h.value] ∧ KAt C H a k ∧ StAt H t h.stamp ∧ ∀ H' : Hp, KAt C H' a ⟨k.me, later k.held h⟩ → Keep [a] H H' → Q .non H'
def spOI (C : Addr) : Sp := fun vs H Q _ => ∃ (p dx : Addr) (cl : Nat) (w : Option Nat), vs = [.ref p, .int cl, oV w] ∧ H p = some (.ins C dx []) ∧ ∀ (H' : Hp) (l : Addr), OAt C H' p (POp.new cl w) l → H l = none → Keep [p] H H' → Q .non H'
def spOG (C : Addr) : Sp := fun vs H Q _ => ∃ (a l : Addr) (o : POp), vs = [.ref a] ∧ OAt C H a o l ∧ Q (.bl o.goesOn) H
def spOA (C : Addr) : Sp := fun vs H Q _ => ∃ (a l : Addr) (o : POp) (kind keeper : Nat), vs = [.ref a, .int kind, .int keeper] ∧ OAt C H a o l ∧ Q (.bl (o.awaits kind keeper)) H
def spOK (C CM : Addr) : Sp := fun vs H Q _ => ∃ (a b l : Addr) (o : POp) (m : Message), vs = [.ref a, .ref b] ∧ OAt C H a o l ∧ MAt CM H b m ∧ o.answered.length ≤ 15 ∧ ∀ H' : Hp, OAt C H' a (o.keep m) l → Keep [a, l] H H' → Q .non H'
def spOM (C : Addr) : Sp := fun vs H Q _ => ∃ (a l : Addr) (o : POp), vs = [.ref a] ∧ OAt C H a o l ∧ ∀ (H' : Hp) (l' : Addr), OAt C H' a o.goOn l' → H l' = none → Keep [a] H H' → Q .non H'
def spOT (C : Addr) : Sp := fun vs H Q _ => ∃ (a l : Addr) (o : POp) (v : Nat), vs = [.ref a] ∧ OAt C H a o l ∧ o.own = some v ∧ ∀ H' : Hp, OAt C H' a (o.tellOwn v) l → Keep [a] H H' → Q .non H'
/-- all that's new among a client's own objects was nothing before -/
def New (fp fp' : List Addr) (H : Hp) : Prop := ∀ x ∈ fp', x ∈ fp ∨ H x = none
def spCI (CC CO : Addr) : Sp := fun vs H Q _ => ∃ (p dx : Addr), vs = [.ref p] ∧ H p = some (.ins CC dx []) ∧ ∀ H' : Hp, CAt CC CO H' p PCl.fresh [p] → Keep [p] H H' → Q .non H'
def spCS (CC CO : Addr) : Sp := fun vs H Q _ => ∃ (c : Addr) (p : PCl) (fp : List Addr) (me n : Nat), vs = [.ref c, .int me, .int n] ∧ CAt CC CO H c p fp ∧
  ∀ (H' : Hp) (fp' : List Addr), CAt CC CO H' c (p.starts me n).1 fp' → New fp fp' H → Keep fp H H' → Q (.int (p.starts me n).2) H'
def spCG (CC CO : Addr) : Sp := fun vs H Q _ => ∃ (c : Addr) (p : PCl) (fp : List Addr), vs = [.ref c] ∧ CAt CC CO H c p fp ∧ Q (.bl p.going) H
def spCB (CC CO : Addr) : Sp := fun vs H Q _ => ∃ (c : Addr) (p : PCl) (fp : List Addr) (w : Option Nat), vs = [.ref c, oV w] ∧ CAt CC CO H c p fp ∧
  ∀ (H' : Hp) (fp' : List Addr), CAt CC CO H' c (p.begins w).1 fp' → New fp fp' H → Keep fp H H' → Q (.int (p.begins w).2) H'
def spCR (CC CO : Addr) : Sp := fun vs H Q _ => ∃ (c : Addr) (p : PCl) (fp : List Addr), vs = [.ref c] ∧ CAt CC CO H c p fp ∧
  ∀ (H' : Hp) (fp' : List Addr), CAt CC CO H' c (p.begins none).1 fp' → New fp fp' H → Keep fp H H' → Q (.int (p.begins none).2) H'
def spCW (CC CO : Addr) : Sp := fun vs H Q _ => ∃ (c : Addr) (p : PCl) (fp : List Addr) (v : Nat), vs = [.ref c, .int v] ∧ CAt CC CO H c p fp ∧
  ∀ (H' : Hp) (fp' : List Addr), CAt CC CO H' c (p.begins (some v)).1 fp' → New fp fp' H → Keep fp H H' → Q (.int (p.begins (some v)).2) H'
def spCY (CC CO : Addr) : Sp := fun vs H Q _ => ∃ (c : Addr) (p : PCl) (fp : List Addr), vs = [.ref c] ∧ CAt CC CO H c p fp ∧ ∀ (H' : Hp) (q : Addr), H q = none → H' q = some (.lst (iv p.said)) → Keep [] H H' → Q (.ref q) H'
def spCA (CC CO CM : Addr) : Sp := fun vs H Q _ => ∃ (c b : Addr) (p : PCl) (fp : List Addr) (m : Message), vs = [.ref c, .ref b] ∧ CAt CC CO H c p fp ∧ MAt CM H b m ∧ Q (.bl (p.awaits m)) H
/-- most haven't answered yet -/
def Few (p : PCl) : Prop := ∀ o, p.last = some o → o.answered.length ≤ 15
def spCH (K : Frag) (CC CO : Addr) : Sp := fun vs H Q _ => ∃ (c q : Addr) (p : PCl) (fp : List Addr) (l : List Nat), vs = [.ref c, .ref q] ∧ CAt CC CO H c p fp ∧ Few p ∧ SqL K H q (nv l) ∧ l.length = 24 ∧ allB l ∧
  ∀ (H' : Hp) (fp' : List Addr), CAt CC CO H' c (p.heard l).1 fp' → New fp fp' H → Keep fp H H' → Q (.int (p.heard l).2) H'
def spCD (CC CO : Addr) : Sp := fun vs H Q _ => ∃ (c : Addr) (p : PCl) (fp : List Addr), vs = [.ref c] ∧ CAt CC CO H c p fp ∧ ∀ (H' : Hp) (q : Addr), H q = none → H' q = some (.lst (iv p.ended)) → Keep [] H H' → Q (.ref q) H'
def spRI (C : Addr) : Sp := fun vs H Q _ => ∃ (p dx a : Addr), vs = [.ref p, .ref a] ∧ H p = some (.ins C dx []) ∧ ∀ H' : Hp, RAt C H' p a 0 → Keep [p] H H' → Q .non H'
def spRM (K : Frag) (C : Addr) : Sp := fun vs H Q _ => ∃ (r a : Addr) (i : Nat) (ns : List Int), vs = [.ref r] ∧ RAt C H r a i ∧ SqL K H a (iv ns) ∧ Q (.bl (decide (i < ns.length))) H
def spRN (K : Frag) (C : Addr) : Sp := fun vs H Q _ => ∃ (r a : Addr) (i : Nat) (ns : List Int) (z : Int), vs = [.ref r] ∧ RAt C H r a i ∧ SqL K H a (iv ns) ∧ ns[i]? = some z ∧ ∀ H' : Hp, RAt C H' r a (i + 1) → Keep [r] H H' → Q (.int z) H'
def spRR (K : Frag) (C : Addr) : Sp := fun vs H Q _ => ∃ (r a : Addr) (i n : Nat) (ns : List Int), vs = [.ref r] ∧ RAt C H r a i ∧ SqL K H a (iv ns) ∧ ns[i]? = some (n : Int) ∧
  ∀ (H' : Hp) (p : Addr), RAt C H' r a (i + 1 + n) → H p = none → H' p = some (.lst (iv ((ns.drop (i + 1)).take n))) → Keep [r] H H' → Q (.ref p) H'

/-! ### defs, as a caller needs them -/
structure GDef (P : Program) (w : World) (K : Frag) (mg : Str → Option Value) (base : Heap) (x : Str) (k : Nat) (ps : List Str) (sp : Sp) : Prop where
  ex : ∃ (f : Addr) (fd : FuncData), FnOk P w K mg base CX0 k f fd ps sp ∧ mg x = some (.ref f) ∧ PySem.W.keepIn K (.ref f) = true ∧ Binds K fd ps []
structure MDef (P : Program) (w : World) (K : Frag) (mg : Str → Option Value) (base : Heap) (C : Addr) (m : Str) (k : Nat) (ps : List Str) (sp : Sp) : Prop where
  ex : ∃ (f : Addr) (fd : FuncData), FnOk P w K mg base CX0 k f fd ps sp ∧ Meth K C m f ∧ Binds K fd ps []
structure CDef (P : Program) (w : World) (K : Frag) (mg : Str → Option Value) (base : Heap) (C : Addr) (x : Str) (k : Nat) (ps : List Str) (sp : Sp) : Prop where
  gl : mg x = some (.ref C)
  ex : ∃ (f : Addr) (fd : FuncData), FnOk P w K mg base CX0 k f fd ps sp ∧ Mk K C f ∧ Binds K fd ps []
section
variable {X : Cx} {k : Nat} {C : Addr} {ps : List Str} {sp : Sp} {x m : Str} {p pos apos : Pos} {e o : Expr} {es : List Expr} {ta : TE} {t : TA}
theorem pe_cst {n : Int} (h : cst X.mg x n) (hg : Gl X x := by rfl) (hd : (x == ("__debug__" : Str)) = false := by decide) : PE X (.Name x p) (tC (.int n)) := by
  obtain ⟨t, h⟩ := h
  exact pe_glob hg h ⟨t, rfl⟩ hd
theorem pe_g (F : GDef X.prog X.w X.K X.mg X.base x k ps sp) (hr : Room k X.A) (ha : PA X (e :: es) t) (hg : Gl X x := by rfl) (hdb : (x == ("__debug__" : Str)) = false := by decide) (he : starEach (e :: es) X.env = (false, eval e X.env) :: starEach es X.env := by rfl) (hpl : (backTo pos (starEach es X.env)).any (·.1) = false := by rfl) :
    PE X (.Call (.Name x p) (e :: es) [] pos) (tCall sp [] E0 t) := by
  obtain ⟨f, fd, F, mg, kp, b⟩ := F.ex
  exact pe_call F hr hg mg kp b .nil pass0 ha hdb he hpl
theorem pe_m {pl : Sem Bool} (he : PE X o ta) (c : Cls X.K C) (F : MDef X.prog X.w X.K X.mg X.base C m k ps sp) (hr : Room k X.A) (ha : PA X (e :: es) t)
    (hst : starEach (e :: es) X.env = (false, eval e X.env) :: starEach es X.env := by rfl) (hpl : (backTo pos (starEach es X.env)).any (·.1) = false := by rfl)
    (ht : eval (.Call (.Attribute o m apos) (e :: es) [] pos) X.env = (do
      let ov ← eval o X.env
      standAt apos.atName
      let (f, first) ← holding [ov] (getMethod ov m pl)
      callWith pos f first (backTo pos (starEach (e :: es) X.env)) (backToKw pos (keywordEach [] X.env))) := by rfl) :
    PE X (.Call (.Attribute o m apos) (e :: es) [] pos) (tMeth C m sp [] E0 ta t) := by
  obtain ⟨f, fd, F, mm, b⟩ := F.ex
  exact pe_meth he c mm F hr b .nil pass0 ha hst hpl ht
theorem pe_m0 {pl : Sem Bool} (he : PE X o ta) (c : Cls X.K C) (F : MDef X.prog X.w X.K X.mg X.base C m k ps sp) (hr : Room k X.A)
    (ht : eval (.Call (.Attribute o m apos) [] [] pos) X.env = (do
      let ov ← eval o X.env
      standAt apos.atName
      let (f, first) ← holding [ov] (getMethod ov m pl)
      callWith pos f first (backTo pos (starEach [] X.env)) (backToKw pos (keywordEach [] X.env))) := by rfl) :
    PE X (.Call (.Attribute o m apos) [] [] pos) (tMeth C m sp [] E0 ta tNil) := by
  obtain ⟨f, fd, F, mm, b⟩ := F.ex
  exact pe_meth0 he c mm F hr b .nil pass0 ht
theorem pe_c (F : CDef X.prog X.w X.K X.mg X.base C x k ps sp) (hr : Room (k + 1) X.A) (ha : PA X (e :: es) t) (hg : Gl X x := by rfl) (hdb : (x == ("__debug__" : Str)) = false := by decide) (he : starEach (e :: es) X.env = (false, eval e X.env) :: starEach es X.env := by rfl) (hpl : (backTo pos (starEach es X.env)).any (·.1) = false := by rfl) :
    PE X (.Call (.Name x p) (e :: es) [] pos) (tMake C sp [] E0 t) := by
  have g := F.gl
  obtain ⟨f, fd, F, mm, b⟩ := F.ex
  exact pe_make mm F hr hg g b .nil pass0 ha hdb he hpl
theorem pe_c0 (F : CDef X.prog X.w X.K X.mg X.base C x k ps sp) (hr : Room (k + 1) X.A) (hg : Gl X x := by rfl) (hdb : (x == ("__debug__" : Str)) = false := by decide) :
    PE X (.Call (.Name x p) [] [] pos) (tMake C sp [] E0 tNil) := by
  have g := F.gl
  obtain ⟨f, fd, F, mm, b⟩ := F.ex
  exact pe_make0 mm F hr hg g b .nil pass0 hdb
end
theorem fnsc {N ps : List Str} {sc : Scope} (h1 : sc.kind = .function := by rfl) (h2 : sc.isCoroutine = false := by rfl) (h3 : sc.isGenerator = false := by rfl) (h4 : N.Nodup := by decide +kernel) (h5 : N.take ps.length = ps := by rfl)
    (h6 : ∀ x ∈ ps, sc.names.lookup x = some .local ∨ sc.names.lookup x = some .cell := by decide +kernel) (h7 : ∀ y ∈ sc.names, y.2 ≠ .free := by decide +kernel) : FnScope N ps sc := ⟨h1, h2, h3, h4, h5, h6, h7⟩
end Pf

/-! The check: eight_steps, crc32c. -/
namespace Pf
open PySem PySem.Spec PyProof.Rows L2
open Km356 (Held Message nothing le num crc messageOf later kDoes)
open Mr (POp PCl allB)
open PySem.W (Frag)
theorem if_t {c : Bool} {A B : Prop} (hc : c = true) (h : A) : if c = true then A else B := by
  rw [if_pos hc]
  exact h
theorem if_f {c : Bool} {A B : Prop} (hc : c = false) (h : B) : if c = true then A else B := by
  rw [hc, if_neg Bool.false_ne_true]
  exact h
theorem nv_at {l : List Nat} {i : Nat} {x : V} (h : (nv l)[i]? = some x) : ∃ n : Nat, l[i]? = some n ∧ x = .int n := by
  unfold nv at h
  rw [List.getElem?_map] at h
  cases e : l[i]? with
  | none => rw [e] at h; cases h
  | some z => rw [e] at h; exact ⟨z, rfl, (Option.some.inj h).symm⟩
theorem xor_nat (a b : Nat) : Builtin.bitXor (a : Int) (b : Int) = ((a ^^^ b : Nat) : Int) := by
  rw [Bits.bitXor_pp (Int.natCast_nonneg a) (Int.natCast_nonneg b)] <;> rfl
section
variable {P : Program} {w : World} {K : Frag} {mg : Str → Option Value} {base : Heap} {A : Ad}
theorem scEight : FnScope ["rest", "step"] ["rest"] (defScope sEight) := fnsc
theorem ok_eight {f : Addr} {fd : FuncData} (F : Fun K "eight_steps" "eight_steps" sEight f fd) (T : Txt K mg A) : FnOk P w K mg base CX0 1 f fd ["rest"] spEight := by
  refine F.ok scEight (fun vs H Q E h => ?_) (fun cdv A' outer s H vs Q E hr h => ?_)
  · obtain ⟨c, rfl, _⟩ := h
    rfl
  · obtain ⟨c, rfl, k⟩ := h
    refine ⟨_, pss_cons (ps_for PassesOwn.never rfl (pi_range1 rfl T.range (pa_cons pe_int pa_nil)) (pg_name (i := 1) scEight.nd rfl (Or.inl rfl))
      (pss_one (ps_if (pt_truth (pe_op op_and (pv 0) pe_int) (by intro _; rfl))
        (pss_one (ps_set (i := 0) scEight.nd rfl (Or.inl rfl) (pe_op op_xor (pe_op op_shr (pv 0) pe_int) (pe_cst T.POLY))))
        (pss_one (ps_set (i := 0) scEight.nd rfl (Or.inl rfl) (pe_op op_shr (pv 0) pe_int))))))
      (pss_one (ps_ret (pv 0))), ?_⟩
    refine ⟨8, rfl, by decide, by decide, for_range (n := 8) (fun i σ H' => H' = H ∧ ∃ v, σ = [some (.int (Mr.bits c i : Nat)), v]) ⟨rfl, none, rfl⟩ ?_ ?_⟩
    · rintro i σ _ hi ⟨rfl, v, rfl⟩
      have e2 : ((Mr.bits c i : Nat) : Int) / 2 ^ (1 : Int).toNat = ((Mr.bits c i / 2 : Nat) : Int) := by
        rw [Int.natCast_ediv]; rfl
      refine ⟨_, rfl, _, _, rfl, rfl, _, rfl, ?_⟩
      rcases Nat.mod_two_eq_zero_or_one (Mr.bits c i) with e | e
      · refine if_f ?_ ⟨_, rfl, _, _, rfl, rfl, (show (0 : Int) ≤ 1 by decide), rfl, some (.int ((0 : Int) + (i : Nat))), ?_⟩
        · rw [bitAnd_m1]
          have : ((Mr.bits c i : Nat) : Int) % 2 = 0 := by omega
          rw [this] <;> rfl
        · show [some (V.int (((Mr.bits c i : Nat) : Int) / 2 ^ (1 : Int).toNat)), _] = _
          rw [e2]
          have : Mr.bits c (i + 1) = Mr.bits c i / 2 := by
            show Km356.crcBit (Mr.bits c i) = _
            rw [Mr.crc_bit, if_neg (by omega)]
          rw [this] <;> rfl
      · refine if_t ?_ ⟨_, rfl, _, _, rfl, rfl, (show (0 : Int) ≤ 1 by decide), _, _, rfl, rfl, rfl, some (.int ((0 : Int) + (i : Nat))), ?_⟩
        · rw [bitAnd_m1]
          have : ((Mr.bits c i : Nat) : Int) % 2 = 1 := by omega
          rw [this] <;> rfl
        · show [some (V.int (Builtin.bitXor (((Mr.bits c i : Nat) : Int) / 2 ^ (1 : Int).toNat) 2197175160)), _] = _
          rw [e2, show (2197175160 : Int) = ((0x82F63B78 : Nat) : Int) from rfl, xor_nat]
          have : Mr.bits c (i + 1) = (Mr.bits c i / 2) ^^^ 0x82F63B78 := by
            show Km356.crcBit (Mr.bits c i) = _
            rw [Mr.crc_bit, if_pos e]
          rw [this] <;> rfl
    · rintro σ _ ⟨rfl, v, rfl⟩
      rw [Mr.eight_eq]
      exact ⟨_, rfl, k⟩
theorem scCrc : FnScope ["row", "rest", "byte"] ["row"] (defScope sCrc) := fnsc
theorem ok_crc {f : Addr} {fd : FuncData} (F : Fun K "crc32c" "crc32c" sCrc f fd) (T : Txt K mg A) (gE : GDef P w K mg base "eight_steps" 1 ["rest"] spEight) : FnOk P w K mg base CX0 2 f fd ["row"] (spCrc K) := by
  refine F.ok scCrc (fun vs H Q E h => ?_) (fun cdv A' outer s H vs Q E hr h => ?_)
  · obtain ⟨a, l, rfl, _⟩ := h
    rfl
  · obtain ⟨a, l, rfl, hS, k⟩ := h
    refine ⟨_, pss_cons (ps_set (i := 1) scCrc.nd rfl (Or.inl rfl) (pe_cst T.ONES))
      (pss_cons (ps_for PassesOwn.never rfl (pi_list (pv 0)) (pg_name (i := 2) scCrc.nd rfl (Or.inl rfl))
        (pss_one (ps_set (i := 1) scCrc.nd rfl (Or.inl rfl) (pe_g gE hr (pa_cons (pe_op op_xor (pv 1) (pv 2)) pa_nil)))))
      (pss_one (ps_ret (pe_op op_xor (pv 1) (pe_cst T.ONES))))), ?_⟩
    refine ⟨_, rfl, a, rfl, ⟨_, hS⟩, for_list (K := K) (a := a) (xs := nv l) (fun i σ H' => H' = H ∧ ∃ v, σ = [some (.ref a), some (.int (Mr.run (l.take i) : Nat)), v]) ⟨rfl, none, rfl⟩ (fun i σ H' _ ⟨e, _⟩ => e ▸ hS) ?_ ?_⟩
    · rintro i x σ _ hi ⟨rfl, v, rfl⟩
      obtain ⟨n, hn, rfl⟩ := nv_at hi
      refine ⟨_, rfl, _, rfl, _, _, rfl, rfl, Mr.run (l.take i) ^^^ n, ?_, rfl, some (.int (n : Nat)), ?_⟩
      · show [V.int (Builtin.bitXor ((Mr.run (l.take i) : Nat) : Int) (n : Int))] = _
        rw [xor_nat] <;> rfl
      · rw [Mr.run_snoc hn] <;> rfl
    · rintro σ _ ⟨rfl, v, rfl⟩
      refine ⟨_, rfl, _, _, rfl, rfl, ?_⟩
      have : l.take (nv l).length = l := by unfold nv; rw [List.length_map, List.take_length]
      rw [this]
      show Q (.int (Builtin.bitXor ((Mr.run l : Nat) : Int) ((0xFFFFFFFF : Nat) : Int))) _
      rw [xor_nat]
      exact k
end
end Pf

/-! Numbers in bytes: low_first, number_at; Message.__init__. -/
namespace Pf
open PySem PySem.Spec PyProof.Rows L2
open Km356 (Held Message nothing le num crc messageOf later kDoes)
open Mr (POp PCl allB)
open PySem.W (Frag)
theorem nv_length (l : List Nat) : (nv l).length = l.length := by unfold nv; rw [List.length_map]
theorem nv_append (a b : List Nat) : nv (a ++ b) = nv a ++ nv b := by unfold nv; rw [List.map_append]
theorem nv_get {l : List Nat} {i n : Nat} (h : l[i]? = some n) : (nv l)[i]? = some (.int n) := by
  unfold nv
  rw [List.getElem?_map, h] <;> rfl
theorem shift_nat (v i : Nat) : Builtin.bitAnd ((v : Int) / 2 ^ ((8 : Int) * (0 + (i : Int))).toNat) 255 = ((v / 256 ^ i % 256 : Nat) : Int) := by
  rw [bitAnd_m8]
  have e : ((8 : Int) * (0 + (i : Int))).toNat = 8 * i := by omega
  rw [e]
  have e3 : (2 : Int) ^ (8 * i) = ((256 ^ i : Nat) : Int) := by
    have : (256 : Nat) ^ i = 2 ^ (8 * i) := by rw [Nat.pow_mul]
    rw [this, Int.natCast_pow]; rfl
  rw [e3, ← Int.natCast_ediv]
  rfl
theorem shl_nat (b i : Nat) : (b : Int) * 2 ^ ((8 : Int) * (0 + (i : Int))).toNat = ((b * 256 ^ i : Nat) : Int) := by
  have e : ((8 : Int) * (0 + (i : Int))).toNat = 8 * i := by omega
  have e3 : (2 : Int) ^ (8 * i) = ((256 ^ i : Nat) : Int) := by
    have : (256 : Nat) ^ i = 2 ^ (8 * i) := by rw [Nat.pow_mul]
    rw [this, Int.natCast_pow]; rfl
  rw [e, e3, Int.natCast_mul]
section
variable {P : Program} {w : World} {K : Frag} {mg : Str → Option Value} {base : Heap} {A : Ad}
theorem scLow : FnScope ["number", "size", "place"] ["number", "size"] (defScope sLow) := fnsc
theorem ok_low {f : Addr} {fd : FuncData} (F : Fun K "low_first" "low_first" sLow f fd) (T : Txt K mg A) : FnOk P w K mg base CX0 1 f fd ["number", "size"] spLow := by
  refine F.ok scLow (fun vs H Q E h => ?_) (fun cdv A' outer s H vs Q E hr h => ?_)
  · obtain ⟨v, z, rfl, _⟩ := h
    rfl
  · obtain ⟨v, z, rfl, hz, k⟩ := h
    refine ⟨_, pss_one (ps_ret (pe_lc (own := [("place", 2)]) (g := gName 2) rfl scLow.nd (pi_range1 rfl T.range (pa_cons (pv 1) pa_nil)) (blkOk_by (N := ["number", "size", "place"]) (sc := defScope sLow) (by decide +kernel))
      (fun _ _ _ _ _ => pg_name (i := 2) scLow.nd rfl (Or.inl rfl)) (fun _ _ _ _ _ => pts_nil)
      (fun _ _ _ _ _ => pe_op op_and (pe_op op_shr (pv 0) (pe_op op_mul pe_int (pv 2))) pe_int))), ?_⟩
    refine ⟨_, rfl, (z : Int), rfl, by omega, by omega, fun D hD => lc_range (lo := 0) (n := z) (fun i H' => H' = upd H D (.lst (nv (le i v)))) rfl ?_ ?_⟩
    · rintro i _ hi rfl
      refine ⟨rfl, ?_⟩
      unfold tYes
      dsimp only
      rw [if_pos rfl]
      refine ⟨_, rfl, _, rfl, _, _, rfl, rfl, .inl ⟨by decide, by decide⟩, _, _, rfl, rfl, ?_, _, _, rfl, rfl, nv (le i v), upd_same, ?_, ?_⟩
      · show (0 : Int) ≤ 8 * (0 + (i : Int)); omega
      · rw [nv_length, Mr.le_length]
        exact Nat.lt_of_lt_of_le hi (Nat.le_trans hz (by decide))
      · show upd (upd H D _) D (.lst (nv (le i v) ++ [V.int (Builtin.bitAnd ((v : Int) / 2 ^ ((8 : Int) * (0 + (i : Int))).toNat) 255)])) = _
        rw [shift_nat, upd_upd, Mr.le_succ, nv_append]
        rfl
    · rintro _ rfl
      exact k _ D hD upd_same (.new hD)
theorem scNum : FnScope ["row", "at", "size", "number", "place"] ["row", "at", "size"] (defScope sNum) := fnsc
theorem ok_num {f : Addr} {fd : FuncData} (F : Fun K "number_at" "number_at" sNum f fd) (T : Txt K mg A) : FnOk P w K mg base CX0 1 f fd ["row", "at", "size"] (spNum K) := by
  refine F.ok scNum (fun vs H Q E h => ?_) (fun cdv A' outer s H vs Q E hr h => ?_)
  · obtain ⟨a, l, k, z, rfl, _⟩ := h
    rfl
  · obtain ⟨a, l, k, z, rfl, hS, hb, hl, hz, q⟩ := h
    refine ⟨_, pss_cons (ps_set (i := 3) scNum.nd rfl (Or.inl rfl) pe_int)
      (pss_cons (ps_for PassesOwn.never rfl (pi_range1 rfl T.range (pa_cons (pv 2) pa_nil)) (pg_name (i := 4) scNum.nd rfl (Or.inl rfl))
        (pss_one (ps_aug (i := 3) scNum.nd rfl (Or.inl rfl) (pe_op op_shl (pe_ix ix_list (pv 0) (pe_op op_add (pv 1) (pv 4)) (fun _ _ => rfl)) (pe_op op_mul pe_int (pv 4))) ip_add)))
      (pss_one (ps_ret (pv 3)))), ?_⟩
    refine ⟨_, rfl, (z : Int), rfl, by omega, by omega, for_range (lo := 0) (n := z) (fun i σ H' => H' = H ∧ ∃ v, σ = [some (.ref a), some (.int k), some (.int z), some (.int (num l k i : Nat)), v]) ⟨rfl, none, ?_⟩ ?_ ?_⟩
    · rw [Mr.num_zero] <;> rfl
    · rintro i σ _ hi ⟨rfl, v, rfl⟩
      obtain ⟨n, hn⟩ : ∃ n, l[k + i]? = some n := ⟨_, List.getElem?_eq_getElem (by omega)⟩
      have hn256 : n < 256 := hb n (List.mem_of_getElem? hn)
      refine ⟨_, rfl, _, rfl, _, rfl, _, rfl, _, _, rfl, rfl, a, _, _, _, rfl, rfl, hS, at_of (j := k + i) (v := .int n) ?_ (nv_get hn), _, rfl, _, _, rfl, rfl, .inl ⟨by decide, by decide⟩, _, _, rfl, rfl, ⟨?_, ?_, ?_⟩, _, _, rfl, rfl, rfl, some (.int ((0 : Int) + (i : Nat))), ?_⟩
      · show (k : Int) + (0 + (i : Int)) = ((k + i : Nat) : Int); omega
      · show (0 : Int) ≤ 8 * (0 + (i : Int)); omega
      · show 8 * (0 + (i : Int)) ≤ (1000000 : Int); omega
      · show (n : Int).natAbs < 2 ^ 64; omega
      · show [some (V.ref a), some (.int k), some (.int z), some (V.int (((num l k i : Nat) : Int) + (n : Int) * 2 ^ ((8 : Int) * (0 + (i : Int))).toNat)), _] = _
        rw [shl_nat, Mr.num_succ hn] <;> rfl
    · rintro σ _ ⟨rfl, v, rfl⟩
      exact ⟨_, rfl, q⟩
theorem scMI : FnScope ["self", "kind", "client", "keeper", "operation", "stamp", "value"] ["self", "kind", "client", "keeper", "operation", "stamp", "value"] (defScope sMI) := fnsc
theorem mF_new (m : Message) (t : Addr) : putF "value" (.int m.held.value) (putF "stamp" (.ref t) (putF "operation" (.int m.op) (putF "keeper" (.int m.keeper) (putF "client" (.int m.client) (putF "kind" (.int m.kind) []))))) = mF m t := by
  rw [put_nil, put_past (by decide +kernel) put_nil, put_past (by decide +kernel) (put_past (by decide +kernel) put_nil), put_past (by decide +kernel) (put_past (by decide +kernel) (put_past (by decide +kernel) put_nil)),
    put_past (by decide +kernel) (put_past (by decide +kernel) (put_past (by decide +kernel) (put_past (by decide +kernel) put_nil))), put_past (by decide +kernel) (put_past (by decide +kernel) (put_past (by decide +kernel) (put_past (by decide +kernel) (put_past (by decide +kernel) put_nil))))]
  rfl
theorem fw {f : Str} {v : V} {fs : List (Str × V)} {n : Nat} (h : fs.length < n) : (putF f v fs).length < n + 1 := Nat.lt_of_le_of_lt (length_putF f v fs) (Nat.succ_lt_succ h)
theorem ok_mi {f : Addr} {fd : FuncData} (F : Fun K "__init__" "Message.__init__" sMI f fd) (T : Txt K mg A) : FnOk P w K mg base CX0 1 f fd ["self", "kind", "client", "keeper", "operation", "stamp", "value"] (spMI A.M) := by
  refine F.ok scMI (fun vs H Q E h => ?_) (fun cdv A' outer s H vs Q E hr h => ?_)
  · obtain ⟨p, dx, t, m, rfl, _⟩ := h
    rfl
  · obtain ⟨p, dx, t, m, rfl, hp, ht, k⟩ := h
    refine ⟨_, pss_cons (ps_fld (pv 0) (pv 1) rfl) (pss_cons (ps_fld (pv 0) (pv 2) rfl) (pss_cons (ps_fld (pv 0) (pv 3) rfl) (pss_cons (ps_fld (pv 0) (pv 4) rfl) (pss_cons (ps_fld (pv 0) (pv 5) rfl) (pss_one (ps_fld (pv 0) (pv 6) rfl)))))), ?_⟩
    refine ⟨_, rfl, _, rfl, p, A.M, dx, [], rfl, hp, T.clM, T.Mkind, by decide, ?_⟩
    refine ⟨_, rfl, _, rfl, p, A.M, dx, _, rfl, upd_same, T.clM, T.Mclient, fw (by decide), ?_⟩
    refine ⟨_, rfl, _, rfl, p, A.M, dx, _, rfl, upd_same, T.clM, T.Mkeeper, fw (fw (by decide)), ?_⟩
    refine ⟨_, rfl, _, rfl, p, A.M, dx, _, rfl, upd_same, T.clM, T.Mop, fw (fw (fw (by decide))), ?_⟩
    refine ⟨_, rfl, _, rfl, p, A.M, dx, _, rfl, upd_same, T.clM, T.Mstamp, fw (fw (fw (fw (by decide)))), ?_⟩
    refine ⟨_, rfl, _, rfl, p, A.M, dx, _, rfl, upd_same, T.clM, T.Mvalue, fw (fw (fw (fw (fw (by decide))))), ?_⟩
    rw [mF_new, upd_upd, upd_upd, upd_upd, upd_upd, upd_upd]
    have kp : Keep [p] H (upd H p (.ins A.M dx (mF m t))) := .ins hp (by simp)
    exact k _ ⟨dx, t, upd_same, ht.keep kp⟩ kp
end
end Pf

/-! Messages: bytes_of, what is asked of them, right_message. -/
namespace Pf
open PySem PySem.Spec PyProof.Rows L2
open Km356 (Held Message nothing le num crc messageOf later kDoes)
open Mr (POp PCl allB)
open PySem.W (Frag)
theorem decI (a b : Nat) : decide (V.int (a : Int) = V.int (b : Int)) = decide (a = b) := by
  by_cases h : a = b
  · rw [h, decide_eq_true rfl, decide_eq_true rfl]
  · rw [decide_eq_false h, decide_eq_false fun q => h (by injection q with q; omega)]
theorem cut20 (l : List Nat) (h : l.length = 24) : cutV (nv l) none (some 20) = nv (l.take 20) := by
  unfold cutV
  have e1 : HT.sIx (nv l).length 0 none = 0 := rfl
  have e2 : HT.sIx (nv l).length (nv l).length (some 20) = 20 := by
    rw [show (some (20 : Int)) = some ((20 : Nat) : Int) from rfl, HT.sIx_nat, nv_length, h]
    rfl
  rw [e1, e2, List.drop_zero]
  unfold nv
  rw [List.map_take] <;> rfl
theorem in2 (a b c : Nat) : inV (.int (a : Int)) [.int (b : Int), .int (c : Int)] = decide (a = b ∨ a = c) := by
  show (((b : Int) == (a : Int)) || (((c : Int) == (a : Int)) || false)) = _
  rw [Bool.or_false, Bool.eq_iff_iff, Bool.or_eq_true, beq_iff_eq, beq_iff_eq, decide_eq_true_eq]
  omega
theorem sz {a b : Nat} (h : a + b ≤ 24) : a + b ≤ sizeLine := Nat.le_trans h (by decide)
section
variable {P : Program} {w : World} {K : Frag} {mg : Str → Option Value} {base : Heap} {A : Ad}
theorem scBytes : FnScope ["message", "row"] ["message"] (defScope sBytes) := fnsc
theorem ok_bytes {f : Addr} {fd : FuncData} (F : Fun K "bytes_of" "bytes_of" sBytes f fd) (T : Txt K mg A) (gL : GDef P w K mg base "low_first" 1 ["number", "size"] spLow) (gC : GDef P w K mg base "crc32c" 2 ["row"] (spCrc K)) : FnOk P w K mg base CX0 3 f fd ["message"] (spBytes A.M) := by
  refine F.ok scBytes (fun vs H Q E h => ?_) (fun cdv A' outer s H vs Q E hr h => ?_)
  · obtain ⟨a, m, rfl, _⟩ := h
    rfl
  · obtain ⟨a, m, rfl, ⟨dx, t, hm, ht⟩, k⟩ := h
    have hr1 : Room 1 _ := hr.mono (by decide)
    refine ⟨_, pss_cons (ps_set (i := 1) scBytes.nd rfl (Or.inl rfl) (pe_lst (pa_cons (pe_fld (pv 0) rfl) (pa_cons (pe_fld (pv 0) rfl) (pa_cons (pe_fld (pv 0) rfl) (pa_cons (pe_ix ix_tup (pe_fld (pv 0) rfl) pe_int (fun _ _ => rfl)) pa_nil))))))
      (pss_cons (ps_expr (pe_bm PySem.F.plainAttrs_list PySem.F.slot_list_extend PySem.F.type_list_extend mt_extend (pv 1) (pa_cons (pe_g gL hr1 (pa_cons (pe_fld (pv 0) rfl) (pa_cons pe_int pa_nil))) pa_nil)))
      (pss_cons (ps_expr (pe_bm PySem.F.plainAttrs_list PySem.F.slot_list_extend PySem.F.type_list_extend mt_extend (pv 1) (pa_cons (pe_g gL hr1 (pa_cons (pe_ix ix_tup (pe_fld (pv 0) rfl) pe_int (fun _ _ => rfl)) (pa_cons pe_int pa_nil))) pa_nil)))
      (pss_cons (ps_expr (pe_bm PySem.F.plainAttrs_list PySem.F.slot_list_extend PySem.F.type_list_extend mt_extend (pv 1) (pa_cons (pe_g gL hr1 (pa_cons (pe_fld (pv 0) rfl) (pa_cons pe_int pa_nil))) pa_nil)))
      (pss_cons (ps_expr (pe_bm PySem.F.plainAttrs_list PySem.F.slot_list_extend PySem.F.type_list_extend mt_extend (pv 1) (pa_cons (pe_g gL hr1 (pa_cons (pe_g gC hr (pa_cons (pv 1) pa_nil)) (pa_cons pe_int pa_nil))) pa_nil)))
      (pss_one (ps_ret (pv 1))))))), ?_⟩
    refine ⟨_, rfl, a, A.M, dx, _, _, rfl, hm, T.clM, T.Mkind, mF_kind, _, rfl, a, A.M, dx, _, _, rfl, hm, T.clM, T.Mclient, mF_client, _, rfl, a, A.M, dx, _, _, rfl, hm, T.clM, T.Mkeeper, mF_keeper,
      _, rfl, a, A.M, dx, _, _, rfl, hm, T.clM, T.Mstamp, mF_stamp, t, _, _, _, rfl, rfl, SqT.of ht, at_of (j := 1) rfl rfl, (by show 4 ≤ sizeLine; decide), fun l hl => ?_⟩
    -- row
    generalize eH1 : upd H l (HO.lst [V.int m.kind, V.int m.client, V.int m.keeper, V.int m.held.stamp.client]) = H1
    have r1 : H1 l = some (.lst (nv [m.kind, m.client, m.keeper, m.held.stamp.client])) := by rw [← eH1]; exact upd_same
    have k1 : Keep [] H H1 := by rw [← eH1]; exact .new hl
    have hm1 := k1 _ _ hm (by simp)
    have ht1 := ht.keep k1
    clear eH1
    refine ⟨_, rfl, .inl ⟨rfl, _, SqL.of r1⟩, _, rfl, a, A.M, dx, _, _, rfl, hm1, T.clM, T.Mop, mF_op, m.op, 4, rfl, by decide, fun H2 p2 n2 v2 k2 => ?_⟩
    have hm2 := k2 _ _ hm1 (by simp)
    have ht2 := ht1.keep k2
    have r2 := k2 _ _ r1 (by simp)
    refine ⟨l, p2, _, _, rfl, rfl, r2, v2, ?_, ?_⟩
    · rw [nv_length, nv_length, Mr.le_length]
      exact sz (show 4 + 4 ≤ 24 by decide)
    have ne2 : a ≠ l := ne_of hm2 r2 (fun q => nomatch q)
    have k2' : Keep [] H (upd H2 l (.lst (nv [m.kind, m.client, m.keeper, m.held.stamp.client] ++ nv (le 4 m.op)))) := (k1.trans1 k2).trans (fp' := [l]) (.lst r2 (by simp)) (fun x q => .inr (by rw [List.mem_singleton] at q; rw [q]; exact hl))
    generalize eH3 : upd H2 l (.lst (nv [m.kind, m.client, m.keeper, m.held.stamp.client] ++ nv (le 4 m.op))) = H3 at k2' ⊢
    have r3 : H3 l = some (.lst (nv ([m.kind, m.client, m.keeper, m.held.stamp.client] ++ le 4 m.op))) := by rw [← eH3, nv_append]; exact upd_same
    have hm3 := k2' _ _ hm (by simp)
    have ht3 := ht.keep k2'
    clear eH3
    -- the number
    refine ⟨_, rfl, .inl ⟨rfl, _, SqL.of r3⟩, _, rfl, a, A.M, dx, _, _, rfl, hm3, T.clM, T.Mstamp, mF_stamp, t, _, _, _, rfl, rfl, SqT.of ht3, at_of (j := 0) rfl rfl, m.held.stamp.number, 4, rfl, by decide, fun H4 p4 n4 v4 k4 => ?_⟩
    have r4 := k4 _ _ r3 (by simp)
    refine ⟨l, p4, _, _, rfl, rfl, r4, v4, ?_, ?_⟩
    · rw [nv_length, nv_length, List.length_append, Mr.le_length, Mr.le_length]
      exact sz (show 4 + 4 + 4 ≤ 24 by decide)
    have k4' : Keep [] H (upd H4 l (.lst (nv ([m.kind, m.client, m.keeper, m.held.stamp.client] ++ le 4 m.op) ++ nv (le 4 m.held.stamp.number)))) := (k2'.trans1 k4).trans (fp' := [l]) (.lst r4 (by simp)) (fun x q => .inr (by rw [List.mem_singleton] at q; rw [q]; exact hl))
    generalize eH5 : upd H4 l (.lst (nv ([m.kind, m.client, m.keeper, m.held.stamp.client] ++ le 4 m.op) ++ nv (le 4 m.held.stamp.number))) = H5 at k4' ⊢
    have r5 : H5 l = some (.lst (nv (([m.kind, m.client, m.keeper, m.held.stamp.client] ++ le 4 m.op) ++ le 4 m.held.stamp.number))) := by rw [← eH5, nv_append (_ ++ _)]; exact upd_same
    have hm5 := k4' _ _ hm (by simp)
    clear eH5
    -- the value
    refine ⟨_, rfl, .inl ⟨rfl, _, SqL.of r5⟩, _, rfl, a, A.M, dx, _, _, rfl, hm5, T.clM, T.Mvalue, mF_value, m.held.value, 8, rfl, by decide, fun H6 p6 n6 v6 k6 => ?_⟩
    have r6 := k6 _ _ r5 (by simp)
    refine ⟨l, p6, _, _, rfl, rfl, r6, v6, ?_, ?_⟩
    · rw [nv_length, nv_length, List.length_append, List.length_append, Mr.le_length, Mr.le_length, Mr.le_length]
      exact sz (show 4 + 4 + 4 + 8 ≤ 24 by decide)
    have k6' : Keep [] H (upd H6 l (.lst (nv (([m.kind, m.client, m.keeper, m.held.stamp.client] ++ le 4 m.op) ++ le 4 m.held.stamp.number) ++ nv (le 8 m.held.value)))) := (k4'.trans1 k6).trans (fp' := [l]) (.lst r6 (by simp)) (fun x q => .inr (by rw [List.mem_singleton] at q; rw [q]; exact hl))
    generalize eH7 : upd H6 l (.lst (nv (([m.kind, m.client, m.keeper, m.held.stamp.client] ++ le 4 m.op) ++ le 4 m.held.stamp.number) ++ nv (le 8 m.held.value))) = H7 at k6' ⊢
    have r7 : H7 l = some (.lst (nv (Mr.body m))) := by
      rw [← eH7, upd_same, ← nv_append]
      unfold Mr.body
      rw [List.append_assoc, List.append_assoc]
    clear eH7
    -- the check
    refine ⟨_, rfl, .inl ⟨rfl, _, SqL.of r7⟩, _, rfl, l, Mr.body m, rfl, SqL.of r7, crc (Mr.body m), 4, rfl, by decide, fun H8 p8 n8 v8 k8 => ?_⟩
    have r8 := k8 _ _ r7 (by simp)
    refine ⟨l, p8, _, _, rfl, rfl, r8, v8, ?_, ?_⟩
    · rw [nv_length, nv_length, Mr.le_length]
      unfold Mr.body
      rw [List.length_append, List.length_append, List.length_append, Mr.le_length, Mr.le_length, Mr.le_length]
      exact sz (show 4 + (4 + (4 + 8)) + 4 ≤ 24 by decide)
    refine ⟨_, rfl, ?_⟩
    refine k _ l hl ?_ ((k6'.trans1 k8).trans (fp' := [l]) (.lst r8 (by simp)) (fun x q => .inr (by rw [List.mem_singleton] at q; rw [q]; exact hl)))
    rw [upd_same, ← nv_append, Mr.bytes_eq]
theorem scIsQ : FnScope ["message"] ["message"] (defScope sIsQ) := fnsc
theorem ok_isQ {f : Addr} {fd : FuncData} (F : Fun K "is_question" "is_question" sIsQ f fd) (T : Txt K mg A) : FnOk P w K mg base CX0 1 f fd ["message"] (spTest A.M Mr.isQ) := by
  refine F.ok scIsQ (fun vs H Q E h => ?_) (fun cdv A' outer s H vs Q E hr h => ?_)
  · obtain ⟨a, m, rfl, _⟩ := h
    rfl
  · obtain ⟨a, m, rfl, ⟨dx, t, hm, ht⟩, k⟩ := h
    refine ⟨_, pss_one (ps_ret (pe_cmpR op_in_seq (pe_fld (pv 0) rfl) (pe_tup (pa_cons (pe_cst T.ASK) (pa_cons (pe_cst T.TELL) pa_nil))) (by rfl))), ?_⟩
    refine ⟨_, rfl, a, A.M, dx, _, _, rfl, hm, T.clM, T.Mkind, mF_kind, (by show 2 ≤ sizeLine; decide), fun p hp => ⟨p, _, rfl, .inr (SqT.of upd_same), rfl, rfl, ?_⟩⟩
    have e : inV (.int (m.kind : Int)) [.int 1, .int 3] = Mr.isQ m := in2 m.kind 1 3
    show Q (.bl (inV (.int (m.kind : Int)) [.int 1, .int 3])) _
    rw [e]
    exact k _ (.new hp)
theorem scWithin : FnScope ["message"] ["message"] (defScope sWithin) := fnsc
theorem ok_within {f : Addr} {fd : FuncData} (F : Fun K "is_within_bounds" "is_within_bounds" sWithin f fd) (T : Txt K mg A) : FnOk P w K mg base CX0 1 f fd ["message"] (spTest A.M Mr.within) := by
  refine F.ok scWithin (fun vs H Q E h => ?_) (fun cdv A' outer s H vs Q E hr h => ?_)
  · obtain ⟨a, m, rfl, _⟩ := h
    rfl
  · obtain ⟨a, m, rfl, ⟨dx, t, hm, ht⟩, k⟩ := h
    refine ⟨_, pss_one (ps_ret (pe_and (pe_chain op_le op_le (pe_cst T.ASK) (pe_fld (pv 0) rfl) (pe_cst T.IS_HELD)) (pe_and (pe_cmpR op_le (pe_fld (pv 0) rfl) (pe_cst T.GCLIENT) (nomark _))
      (pe_and (pe_cmpR op_le (pe_ix ix_tup (pe_fld (pv 0) rfl) pe_int (fun _ _ => rfl)) (pe_cst T.GCLIENT) (nomark _)) (pe_and (pe_cmpR op_le (pe_fld (pv 0) rfl) (pe_cst T.GKEEPER) (nomark _)) (pe_one (pe_cmpR op_ne (pe_fld (pv 0) rfl) pe_int (nomark _)))))))), ?_⟩
    have q := k H (.refl _ _)
    unfold Mr.within at q
    refine ⟨_, rfl, a, A.M, dx, _, _, rfl, hm, T.clM, T.Mkind, mF_kind, _, _, rfl, rfl, _, rfl, ?_⟩
    have e1 : ∀ x y : Nat, decide ((x : Int) ≤ (y : Int)) = decide (x ≤ y) := fun x y => by simp
    rw [show decide ((1 : Int) ≤ (m.kind : Int)) = decide (1 ≤ m.kind) from e1 1 m.kind]
    by_cases c1 : 1 ≤ m.kind
    rotate_left
    · rw [decide_eq_false c1] at q ⊢
      exact if_f rfl ⟨_, rfl, if_f rfl q⟩
    rw [decide_eq_true c1] at q ⊢
    refine if_t rfl ⟨_, _, rfl, rfl, _, rfl, ?_⟩
    rw [show decide ((m.kind : Int) ≤ 4) = decide (m.kind ≤ 4) from e1 m.kind 4]
    by_cases c2 : m.kind ≤ 4
    rotate_left
    · rw [decide_eq_false c2] at q ⊢
      exact if_f rfl q
    rw [decide_eq_true c2] at q ⊢
    refine if_t rfl ⟨_, rfl, a, A.M, dx, _, _, rfl, hm, T.clM, T.Mclient, mF_client, _, _, rfl, rfl, _, rfl, ?_⟩
    rw [show decide ((m.client : Int) ≤ 15) = decide (m.client ≤ 15) from e1 m.client 15]
    by_cases c3 : m.client ≤ 15
    rotate_left
    · rw [decide_eq_false c3] at q ⊢
      exact if_f rfl q
    rw [decide_eq_true c3] at q ⊢
    refine if_t rfl ⟨_, rfl, a, A.M, dx, _, _, rfl, hm, T.clM, T.Mstamp, mF_stamp, t, _, _, _, rfl, rfl, SqT.of ht, at_of (j := 1) rfl rfl, _, _, rfl, rfl, _, rfl, ?_⟩
    rw [show decide ((m.held.stamp.client : Int) ≤ 15) = decide (m.held.stamp.client ≤ 15) from e1 _ 15]
    by_cases c4 : m.held.stamp.client ≤ 15
    rotate_left
    · rw [decide_eq_false c4] at q ⊢
      exact if_f rfl q
    rw [decide_eq_true c4] at q ⊢
    refine if_t rfl ⟨_, rfl, a, A.M, dx, _, _, rfl, hm, T.clM, T.Mkeeper, mF_keeper, _, _, rfl, rfl, _, rfl, ?_⟩
    rw [show decide ((m.keeper : Int) ≤ 14) = decide (m.keeper ≤ 14) from e1 _ 14]
    by_cases c5 : m.keeper ≤ 14
    rotate_left
    · rw [decide_eq_false c5] at q ⊢
      exact if_f rfl q
    rw [decide_eq_true c5] at q ⊢
    refine if_t rfl ⟨_, rfl, a, A.M, dx, _, _, rfl, hm, T.clM, T.Mop, mF_op, rfl, ?_⟩
    show Q (.bl (!decide (V.int (m.op : Int) = V.int ((0 : Nat) : Int)))) H
    rw [decI]
    have e : (!decide (m.op = 0)) = decide (m.op ≠ 0) := by simp
    rw [e]
    exact q
theorem scZeros : FnScope ["message"] ["message"] (defScope sZeros) := fnsc
theorem ok_zeros {f : Addr} {fd : FuncData} (F : Fun K "has_its_zeros" "has_its_zeros" sZeros f fd) (T : Txt K mg A) (gQ : GDef P w K mg base "is_question" 1 ["message"] (spTest A.M Mr.isQ)) : FnOk P w K mg base CX0 2 f fd ["message"] (spTest A.M Mr.zeros) := by
  refine F.ok scZeros (fun vs H Q E h => ?_) (fun cdv A' outer s H vs Q E hr h => ?_)
  · obtain ⟨a, m, rfl, _⟩ := h
    rfl
  · obtain ⟨a, m, rfl, ⟨dx, t, hm, ht⟩, k⟩ := h
    refine ⟨_, pss_cons (ps_if (PW.pt (pw_and (pt_val (pe_g gQ hr (pa_cons (pv 0) pa_nil))) (pw_and1 (pt_cmpR op_ne (pe_fld (pv 0) rfl) pe_int (nomark _))))) (pss_one (ps_ret pe_bl)) pss_nil)
      (pss_cons (ps_if (PW.pt (pw_or (pt_cmpR op_in_seq (pe_fld (pv 0) rfl) (pe_tup (pa_cons (pe_cst T.ASK) (pa_cons (pe_cst T.IS_HELD) pa_nil))) (by rfl)) (pw_or1 (pt_cmpR op_eq (pe_ix ix_tup (pe_fld (pv 0) rfl) pe_int (fun _ _ => rfl)) pe_int (nomark _)))))
        (pss_one (ps_ret (pe_and (pe_cmpR (op_eqD hr.units) (pe_fld (pv 0) rfl) (pe_tup (pa_cons pe_int (pa_cons pe_int pa_nil))) (nomark _)) (pe_one (pe_cmpR op_eq (pe_fld (pv 0) rfl) pe_int (nomark _)))))) pss_nil)
      (pss_one (ps_ret pe_bl))), ?_⟩
    have ret : ∀ H1 : Hp, Keep [] H H1 → ¬ (Mr.isQ m = true ∧ m.keeper ≠ 0) → ((m.kind = 1 ∨ m.kind = 4) ∨ m.held.stamp.number = 0) →
        (tRet (tAndV (tOp (rEqD K) (tFld K (tVar 0) "stamp") (tTup (tCons (tC (.int 0)) (tCons (tC (.int 0)) tNil)))) (tOp rEq (tFld K (tVar 0) "value") (tC (.int 0)))) : TS) { nx := fun _ H' => Q .non H', rt := Q } (L2.start ["message"] [V.ref a]) H1 := by
      intro H1 k1 nq z
      have hm1 := k1 _ _ hm (by simp)
      have ht1 := ht.keep k1
      refine ⟨_, rfl, a, A.M, dx, _, _, rfl, hm1, T.clM, T.Mstamp, mF_stamp, (by show 2 ≤ sizeLine; decide), fun p hp => ?_⟩
      have k2 : Keep [] H1 (upd H1 p (.tup [.int 0, .int 0])) := .new hp
      refine ⟨.tuple [.int m.held.stamp.number, .int m.held.stamp.client], .tuple [.int 0, .int 0], .tup (SqT.of (ht1.keep k2)) (.cons (.int _) (.cons (.int _) .nil)), .tup (SqT.of upd_same) (.cons (.int _) (.cons (.int _) .nil)), rfl, rfl, _, rfl, ?_⟩
      have e : PyData.eqv (.tuple [.int m.held.stamp.number, .int m.held.stamp.client]) (.tuple [.int 0, .int 0]) = decide (m.held.stamp.number = 0 ∧ m.held.stamp.client = 0) := by
        show (((m.held.stamp.number : Int) == 0) && (((m.held.stamp.client : Int) == 0) && true)) = _
        rw [Bool.and_true, Bool.eq_iff_iff, Bool.and_eq_true, beq_iff_eq, beq_iff_eq, decide_eq_true_eq]
        omega
      rw [e]
      have fin : Mr.zeros m = decide ((m.held.stamp.number = 0 ∧ m.held.stamp.client = 0) ∧ m.held.value = 0) := by
        unfold Mr.zeros
        rw [if_neg nq, if_pos z]
      have q := k _ (k1.trans1 k2)
      rw [fin] at q
      by_cases c : m.held.stamp.number = 0 ∧ m.held.stamp.client = 0
      · refine if_t (decide_eq_true c) ?_
        refine ⟨_, rfl, a, A.M, dx, _, _, rfl, k2 _ _ hm1 (by simp), T.clM, T.Mvalue, mF_value, rfl, ?_⟩
        show Q (.bl (decide (V.int (m.held.value : Int) = V.int ((0 : Nat) : Int)))) _
        rw [decI]
        have e2 : decide ((m.held.stamp.number = 0 ∧ m.held.stamp.client = 0) ∧ m.held.value = 0) = decide (m.held.value = 0) := by simp [c]
        rw [e2] at q
        exact q
      · refine if_f (decide_eq_false c) ?_
        have e2 : decide ((m.held.stamp.number = 0 ∧ m.held.stamp.client = 0) ∧ m.held.value = 0) = false := decide_eq_false fun z => c z.1
        rw [e2] at q
        exact q
    -- what comes behind the first test
    have second : ∀ H1 : Hp, Keep [] H H1 → ¬ (Mr.isQ m = true ∧ m.keeper ≠ 0) → tSeq (tIfS (tOr (tTest (tOp (rIn K false) (tFld K (tVar 0) "kind") (tTup (tCons (tC (.int 1)) (tCons (tC (.int 4)) tNil))))) (tTest (tOp rEq (tOp (rIxT K) (tFld K (tVar 0) "stamp") (tC (.int 0))) (tC (.int 0)))))
        (tRet (tAndV (tOp (rEqD K) (tFld K (tVar 0) "stamp") (tTup (tCons (tC (.int 0)) (tCons (tC (.int 0)) tNil)))) (tOp rEq (tFld K (tVar 0) "value") (tC (.int 0))))) tNext) (tRet (tC (.bl true))) { nx := fun _ H' => Q .non H', rt := Q } (L2.start ["message"] [V.ref a]) H1 := by
      intro H1 k1 nq
      have hm1 := k1 _ _ hm (by simp)
      refine ⟨_, rfl, a, A.M, dx, _, _, rfl, hm1, T.clM, T.Mkind, mF_kind, (by show 2 ≤ sizeLine; decide), fun p hp => ⟨p, _, rfl, .inr (SqT.of upd_same), rfl, rfl, _, rfl, ?_⟩⟩
      have k2 : Keep [] H1 (upd H1 p (.tup [.int 1, .int 4])) := .new hp
      have e : inV (.int (m.kind : Int)) [.int 1, .int 4] = decide (m.kind = 1 ∨ m.kind = 4) := in2 m.kind 1 4
      show if inV (.int (m.kind : Int)) [.int 1, .int 4] = true then _ else _
      rw [e]
      by_cases z1 : m.kind = 1 ∨ m.kind = 4
      · exact if_t (decide_eq_true z1) (if_t rfl (ret _ (k1.trans1 k2) nq (.inl z1)))
      · refine if_f (decide_eq_false z1) ?_
        refine ⟨_, rfl, a, A.M, dx, _, _, rfl, k2 _ _ hm1 (by simp), T.clM, T.Mstamp, mF_stamp, t, _, _, _, rfl, rfl, SqT.of ((ht.keep k1).keep k2), at_of (j := 0) rfl rfl, rfl, _, rfl, ?_⟩
        show if decide (V.int (m.held.stamp.number : Int) = V.int ((0 : Nat) : Int)) = true then _ else _
        rw [decI]
        by_cases z2 : m.held.stamp.number = 0
        · exact if_t (decide_eq_true z2) (ret _ (k1.trans1 k2) nq (.inr z2))
        · refine if_f (decide_eq_false z2) ?_
          have fin : Mr.zeros m = true := by
            unfold Mr.zeros
            rw [if_neg nq, if_neg fun z => z.elim z1 z2]
          have q := k _ (k1.trans1 k2)
          rw [fin] at q
          exact q
    refine ⟨_, rfl, a, m, rfl, ⟨dx, t, hm, ht⟩, fun H1 k1 => ⟨_, rfl, ?_⟩⟩
    by_cases c : Mr.isQ m = true
    · refine if_t c ?_
      refine ⟨_, rfl, a, A.M, dx, _, _, rfl, k1 _ _ hm (by simp), T.clM, T.Mkeeper, mF_keeper, rfl, _, rfl, ?_⟩
      show if (!decide (V.int (m.keeper : Int) = V.int ((0 : Nat) : Int))) = true then _ else _
      rw [decI]
      by_cases d : m.keeper = 0
      · exact if_f (by simp [d]) (second _ k1 fun z => z.2 d)
      · refine if_t (by simp [d]) ?_
        have fin : Mr.zeros m = false := by
          unfold Mr.zeros
          rw [if_pos ⟨c, d⟩]
        have q := k _ k1
        rw [fin] at q
        exact q
    · exact if_f (Bool.eq_false_iff.mpr c) (if_f rfl (second _ k1 fun z => c z.1))
end
end Pf

/-! right_message; the keeper. -/
namespace Pf
open PySem PySem.Spec PyProof.Rows L2
open Km356 (Held Message nothing le num crc messageOf later kDoes)
open Mr (POp PCl allB)
open PySem.W (Frag)
section
variable {P : Program} {w : World} {K : Frag} {mg : Str → Option Value} {base : Heap} {A : Ad}
theorem scRight : FnScope ["row", "stamp", "message"] ["row"] (defScope sRight) := fnsc
theorem ok_right {f : Addr} {fd : FuncData} (F : Fun K "right_message" "right_message" sRight f fd) (T : Txt K mg A) (gN : GDef P w K mg base "number_at" 1 ["row", "at", "size"] (spNum K)) (gC : GDef P w K mg base "crc32c" 2 ["row"] (spCrc K))
    (cM : CDef P w K mg base A.M "Message" 1 ["self", "kind", "client", "keeper", "operation", "stamp", "value"] (spMI A.M)) (gW : GDef P w K mg base "is_within_bounds" 1 ["message"] (spTest A.M Mr.within)) (gZ : GDef P w K mg base "has_its_zeros" 2 ["message"] (spTest A.M Mr.zeros)) :
    FnOk P w K mg base CX0 4 f fd ["row"] (spRight K A.M) := by
  refine F.ok scRight (fun vs H Q E h => ?_) (fun cdv A' outer s H vs Q E hr h => ?_)
  · obtain ⟨a, l, rfl, _⟩ := h
    rfl
  · obtain ⟨a, l, rfl, hS, hl, hb, kN, kS⟩ := h
    have hr1 : Room 1 _ := hr.mono (by decide)
    have hr2 : Room 2 _ := hr.mono (by decide)
    refine ⟨_, pss_cons (ps_if (pt_cmpR op_ne (pe_g gN hr1 (pa_cons (pv 0) (pa_cons (pe_cst T.CHECK) (pa_cons pe_int pa_nil)))) (pe_g gC hr2 (pa_cons (pe_slice sl_list (pv 0) po_none (po_some (pe_cst T.CHECK))) pa_nil)) (nomark _)) (pss_one (ps_ret pe_non)) pss_nil)
      (pss_cons (ps_set (i := 1) scRight.nd rfl (Or.inl rfl) (pe_tup (pa_cons (pe_g gN hr1 (pa_cons (pv 0) (pa_cons pe_int (pa_cons pe_int pa_nil)))) (pa_cons (pe_ix ix_list (pv 0) pe_int (fun _ _ => rfl)) pa_nil))))
      (pss_cons (ps_set (i := 2) scRight.nd rfl (Or.inl rfl) (pe_c cM hr2 (pa_cons (pe_ix ix_list (pv 0) pe_int (fun _ _ => rfl)) (pa_cons (pe_ix ix_list (pv 0) pe_int (fun _ _ => rfl)) (pa_cons (pe_ix ix_list (pv 0) pe_int (fun _ _ => rfl))
        (pa_cons (pe_g gN hr1 (pa_cons (pv 0) (pa_cons pe_int (pa_cons pe_int pa_nil)))) (pa_cons (pv 1) (pa_cons (pe_g gN hr1 (pa_cons (pv 0) (pa_cons pe_int (pa_cons pe_int pa_nil)))) pa_nil))))))))
      (pss_cons (ps_if (PW.pt (pw_and (pt_val (pe_g gW hr1 (pa_cons (pv 2) pa_nil))) (pw_and1 (pt_val (pe_g gZ hr2 (pa_cons (pv 2) pa_nil)))))) (pss_one (ps_ret (pv 2))) pss_nil)
      (pss_one (ps_ret pe_non))))), ?_⟩
    have R : Mr.right l = messageOf l := Mr.right_eq hl hb
    have at1 : ∀ k, k < 24 → (nv l)[k]? = some (.int (num l k 1 : Nat)) := fun k hk => by
      have h := List.getElem?_eq_getElem (l := l) (i := k) (by omega)
      rw [Mr.num_one h]
      exact nv_get h
    refine ⟨_, rfl, a, l, 20, 4, rfl, hS, hb, by omega, by decide, ?_⟩
    refine ⟨_, rfl, _, rfl, a, _, rfl, hS, fun p hp => ?_⟩
    have k1 : Keep [] H (upd H p (.lst (cutV (nv l) none (some 20)))) := .new hp
    refine ⟨p, l.take 20, rfl, SqL.of (by rw [upd_same, cut20 l hl]), rfl, _, rfl, ?_⟩
    show if (!decide (V.int (num l 20 4 : Nat) = V.int (crc (l.take 20) : Nat))) = true then _ else _
    rw [decI]
    by_cases c : num l 20 4 = crc (l.take 20)
    rotate_left
    · refine if_t (by simp [c]) ?_
      refine kN ?_ _ k1
      rw [← R]
      unfold Mr.right
      rw [if_pos c]
    refine if_f (by simp [c]) ?_
    have hS1 := sql_same hS k1
    refine ⟨_, rfl, a, l, 8, 4, rfl, hS1, hb, by omega, by decide, ?_⟩
    refine ⟨_, rfl, a, _, _, _, rfl, rfl, hS1, at_of (j := 3) rfl (at1 3 (by decide)), (by show 2 ≤ sizeLine; decide), fun t ht => ?_⟩
    generalize eH2 : upd (upd H p (.lst (cutV (nv l) none (some 20)))) t (.tup [V.int (num l 8 4 : Nat), V.int (num l 3 1 : Nat)]) = H2
    have k2 : Keep [] H H2 := by rw [← eH2]; exact k1.trans1 (.new ht)
    have st : StAt H2 t (Mr.part l).held.stamp := by rw [← eH2]; exact upd_same
    have hS2 := sql_same hS k2
    clear eH2
    -- the message
    refine ⟨_, rfl, a, _, _, _, rfl, rfl, hS2, at_of (j := 0) rfl (at1 0 (by decide)), _, rfl, a, _, _, _, rfl, rfl, hS2, at_of (j := 1) rfl (at1 1 (by decide)), _, rfl, a, _, _, _, rfl, rfl, hS2, at_of (j := 2) rfl (at1 2 (by decide)), ?_⟩
    refine ⟨_, rfl, a, l, 4, 4, rfl, hS2, hb, by omega, by decide, ?_⟩
    refine ⟨_, rfl, _, rfl, a, l, 12, 8, rfl, hS2, hb, by omega, by decide, ?_⟩
    intro x dx nx nd ne
    refine ⟨x, dx, t, Mr.part l, rfl, upd_same, ?_, fun H3 hM k3 => ⟨rfl, ?_⟩⟩
    · show upd _ _ _ t = _
      rw [upd_ne (ne_of_none st nx), upd_ne (ne_of_none st nd)]
      exact st
    have k3' : Keep [] H H3 := k2.trans1 (Keep.made nx nd k3)
    refine ⟨_, rfl, x, Mr.part l, rfl, hM, fun H4 k4 => ⟨_, rfl, ?_⟩⟩
    have nxH : H x = none := k2.free nx (by simp)
    by_cases d : Mr.within (Mr.part l) = true
    · refine if_t d ?_
      refine ⟨_, rfl, x, Mr.part l, rfl, hM.same k4, fun H5 k5 => ⟨_, rfl, ?_⟩⟩
      by_cases g : Mr.zeros (Mr.part l) = true
      · refine if_t g ?_
        refine ⟨_, rfl, ?_⟩
        refine kS (Mr.part l) ?_ _ _ ((hM.same k4).same k5) nxH ((k3'.trans1 k4).trans1 k5)
        rw [← R]
        unfold Mr.right
        rw [if_neg (fun z => z c), if_pos ⟨d, g⟩]
      · refine if_f (Bool.eq_false_iff.mpr g) ?_
        refine kN ?_ _ ((k3'.trans1 k4).trans1 k5)
        rw [← R]
        unfold Mr.right
        rw [if_neg (fun z => z c), if_neg fun z => g z.2]
    · refine if_f (Bool.eq_false_iff.mpr d) (if_f rfl ?_)
      refine kN ?_ _ (k3'.trans1 k4)
      rw [← R]
      unfold Mr.right
      rw [if_neg (fun z => z c), if_neg fun z => d z.1]

/-! ### the keeper -/
theorem kF_new (t : Addr) : putF "value" (.int 0) (putF "stamp" (.ref t) (putF "me" (.int 0) [])) = kF Mr.kNew t := by
  rw [put_nil, put_past (by decide +kernel) put_nil, put_past (by decide +kernel) (put_past (by decide +kernel) put_nil)]
  rfl
theorem scKI : FnScope ["self"] ["self"] (defScope sKI) := fnsc
theorem ok_ki {f : Addr} {fd : FuncData} (F : Fun K "__init__" "Keeper.__init__" sKI f fd) (T : Txt K mg A) : FnOk P w K mg base CX0 1 f fd ["self"] (spKI A.K) := by
  refine F.ok scKI (fun vs H Q E h => ?_) (fun cdv A' outer s H vs Q E hr h => ?_)
  · obtain ⟨p, dx, rfl, _⟩ := h
    rfl
  · obtain ⟨p, dx, rfl, hp, k⟩ := h
    refine ⟨_, pss_cons (ps_fld (pv 0) pe_int rfl) (pss_cons (ps_fld (pv 0) (pe_tup (pa_cons pe_int (pa_cons pe_int pa_nil))) rfl) (pss_one (ps_fld (pv 0) pe_int rfl))), ?_⟩
    refine ⟨_, rfl, p, A.K, dx, [], rfl, hp, T.clK, T.Kme, by decide, ?_⟩
    refine ⟨(by show 2 ≤ sizeLine; decide), fun t ht => ?_⟩
    have ntp : p ≠ t := ne_of_none upd_same ht
    refine ⟨_, rfl, p, A.K, dx, _, rfl, by rw [upd_ne ntp]; exact upd_same, T.clK, T.Kstamp, fw (by decide), ?_⟩
    refine ⟨_, rfl, p, A.K, dx, _, rfl, upd_same, T.clK, T.Kvalue, fw (fw (by decide)), ?_⟩
    rw [kF_new, upd_upd]
    refine k _ ⟨dx, t, upd_same, ?_⟩ ?_
    · show upd _ _ _ t = _
      rw [upd_ne ntp.symm]
      exact upd_same
    · intro b o e c
      by_cases q : b = p
      · obtain ⟨xs, z⟩ := c (by simp [q])
        rw [q, hp] at e
        rw [z] at e
        cases e
      · rw [upd_ne q]
        have hb : upd H p (HO.ins A.K dx (putF "me" (V.int 0) [])) b = some o := by rw [upd_ne q]; exact e
        rw [upd_ne (ne_of_none hb ht)]
        exact hb
theorem kF_start (k : Kpr) (t t2 : Addr) (me : Nat) : putF "value" (.int 0) (putF "stamp" (.ref t2) (putF "me" (.int me) (kF k t))) = kF ⟨me, nothing⟩ t2 := by
  unfold kF
  rw [put_here, put_past (by decide +kernel) put_here, put_past (by decide +kernel) (put_past (by decide +kernel) put_here)]
  rfl
theorem scKS : FnScope ["self", "me"] ["self", "me"] (defScope sKS) := fnsc
theorem ok_ks {f : Addr} {fd : FuncData} (F : Fun K "qk_start" "Keeper.qk_start" sKS f fd) (T : Txt K mg A) : FnOk P w K mg base CX0 1 f fd ["self", "me"] (spKS A.K) := by
  refine F.ok scKS (fun vs H Q E h => ?_) (fun cdv A' outer s H vs Q E hr h => ?_)
  · obtain ⟨a, kp, me, rfl, _⟩ := h
    rfl
  · obtain ⟨a, kp, me, rfl, ⟨dx, t, ha, ht⟩, k⟩ := h
    refine ⟨_, pss_cons (ps_if (pt_cmpR op_gt (pv 1) (pe_cst T.GKEEPER) (nomark _)) (pss_one (ps_ret (pe_cst T.RANGE))) pss_nil)
      (pss_cons (ps_fld (pv 0) (pv 1) rfl) (pss_cons (ps_fld (pv 0) (pe_tup (pa_cons pe_int (pa_cons pe_int pa_nil))) rfl) (pss_cons (ps_fld (pv 0) pe_int rfl) (pss_one (ps_ret pe_int))))), ?_⟩
    have e0 : kDoes kp (.kStart me) = if Km356.KEEPERS ≤ me then (kp, Km356.only (-22)) else (⟨me, nothing⟩, Km356.only 0) := rfl
    unfold Km356.KEEPERS at e0
    rw [e0] at k
    refine ⟨_, rfl, _, _, rfl, rfl, _, rfl, ?_⟩
    by_cases c : 15 ≤ me
    · rw [if_pos c] at k
      refine if_t (decide_eq_true (show (14 : Int) < (me : Int) by omega)) ?_
      exact k H ⟨dx, t, ha, ht⟩ (.refl _ _)
    · rw [if_neg c] at k
      refine if_f (decide_eq_false (show ¬ (14 : Int) < (me : Int) by omega)) ?_
      refine ⟨_, rfl, _, rfl, a, A.K, dx, _, rfl, ha, T.clK, T.Kme, (by show 3 < 1000; decide), ?_⟩
      refine ⟨(by show 2 ≤ sizeLine; decide), fun t2 ht2 => ?_⟩
      have nta : a ≠ t2 := ne_of_none upd_same ht2
      refine ⟨_, rfl, a, A.K, dx, _, rfl, by rw [upd_ne nta]; exact upd_same, T.clK, T.Kstamp, fw (by show 3 < 999; decide), ?_⟩
      refine ⟨_, rfl, a, A.K, dx, _, rfl, upd_same, T.clK, T.Kvalue, fw (fw (by show 3 < 998; decide)), ?_⟩
      rw [kF_start, upd_upd]
      refine k _ ⟨dx, t2, upd_same, ?_⟩ ?_
      · show upd _ _ _ t2 = _
        rw [upd_ne nta.symm]
        exact upd_same
      · intro b o e cc
        by_cases q : b = a
        · obtain ⟨xs, z⟩ := cc (by simp [q])
          rw [q, ha] at e
          rw [z] at e
          cases e
        · rw [upd_ne q]
          have hb : upd H a (HO.ins A.K dx (putF "me" (V.int me) (kF kp t))) b = some o := by rw [upd_ne q]; exact e
          rw [upd_ne (ne_of_none hb ht2)]
          exact hb
end
end Pf

/-! The keeper: hold, qk_heard; stamps compared. -/
namespace Pf
open PySem PySem.Spec PyProof.Rows L2
open Km356 (Held Message nothing le num crc messageOf later kDoes)
open Mr (POp PCl allB)
open PySem.W (Frag)
/-- t > u of two stamps -/
def rGtS (K : Frag) : R2 := fun x y H Q => ∃ (a b : Addr) (s s' : Km356.Stamp), x = .ref a ∧ y = .ref b ∧ SqT K H a [.int s.number, .int s.client] ∧ SqT K H b [.int s'.number, .int s'.client] ∧ Q (.bl (s'.less s)) H
theorem op_gtS {X : Cx} (hu : X.A.units < cLine) : OpR X (compareOp .Gt) (rGtS X.K) := by
  rintro pins sh σ H x y vx vy Q I rx ry ⟨a, b, s1, s2, rfl, rfl, h1, h2, q⟩
  cases rx
  cases ry
  obtain ⟨l1, r1, p1, _⟩ := I.tuple h1
  obtain ⟨l2, r2, p2, _⟩ := I.tuple h2
  obtain ⟨u1, u2, rfl, ⟨t1, rfl⟩, ⟨t2, rfl⟩⟩ := vals2 r1
  obtain ⟨u3, u4, rfl, ⟨t3, rfl⟩, ⟨t4, rfl⟩⟩ := vals2 r2
  have z : Ob.lexAt (fun j => if j = 0 then ((s1.number : Int) == (s2.number : Int)) else ((s1.client : Int) == (s2.client : Int))) (fun j => if j = 0 then decide ((s2.number : Int) < (s1.number : Int)) else decide ((s2.client : Int) < (s1.client : Int))) (decide (2 > 2)) 0 2 = s2.less s1 := by
    show (if ((s1.number : Int) == (s2.number : Int)) = true then (if ((s1.client : Int) == (s2.client : Int)) = true then decide (2 > 2) else decide ((s2.client : Int) < (s1.client : Int))) else decide ((s2.number : Int) < (s1.number : Int))) = _
    unfold Km356.Stamp.less
    by_cases c1 : s1.number = s2.number
    · rw [if_pos (by simp [c1])]
      by_cases c2 : s1.client = s2.client
      · rw [if_pos (by simp [c2]), c1, c2]
        simp
      · rw [if_neg (by simp; omega), c1]
        simp
    · rw [if_neg (by simp; omega)]
      have : ¬ s2.number = s1.number := fun q => c1 q.symm
      simp [this]
  refine Ob.RcOp.tuples_gt (A := X.A) (s := sh) (e := fun j => if j = 0 then ((s1.number : Int) == (s2.number : Int)) else ((s1.client : Int) == (s2.client : Int))) (r := fun j => if j = 0 then decide ((s2.number : Int) < (s1.number : Int)) else decide ((s2.client : Int) < (s1.client : Int))) p1 p2 hu
    (fun j g1 g2 => ?_) (fun j g1 g2 _ => ?_) X.prog X.w X.xe (EP X pins σ Q) ⟨.bl (s2.less s1), H, I, ?_, q⟩
  · match j, g1, g2 with
    | 0, _, _ => exact SeqAt.EqAt.int_int _ _ _ _
    | 1, _, _ => exact SeqAt.EqAt.int_int _ _ _ _
    | j + 2, g1, _ => exact absurd g1 (by show ¬ j + 2 < 2; omega)
  · match j, g1, g2 with
    | 0, _, _ => exact Ob.RcOp.gt_int _ _ _ _
    | 1, _, _ => exact Ob.RcOp.gt_int _ _ _ _
    | j + 2, g1, _ => exact absurd g1 (by show ¬ j + 2 < 2; omega)
  · rw [← z] <;> rfl
/-! ### what a keeper does, case by case -/
theorem kh_none {k : Kpr} {l : List Nat} (h : messageOf l = none) : kDoes k (.kHeard l) = (k, Km356.only (-71)) := by
  show (match messageOf l with | none => (k, Km356.only (-71)) | some m => _) = _
  rw [h]
theorem kh_some {k : Kpr} {l : List Nat} {m : Message} (h : messageOf l = some m) : kDoes k (.kHeard l) = if m.kind = 2 ∨ m.kind = 4 then (k, Km356.only (-71)) else ((k.hears m).1, { value := 0, out := (k.hears m).2.bytes }) := by
  show (match messageOf l with | none => (k, Km356.only (-71)) | some m => if m.kind = 2 ∨ m.kind = 4 then (k, Km356.only (-71)) else ((k.hears m).1, { value := 0, out := (k.hears m).2.bytes })) = _
  rw [h]
theorem kind_cases {l : List Nat} {m : Message} (h : messageOf l = some m) : m.kind = 1 ∨ m.kind = 2 ∨ m.kind = 3 ∨ m.kind = 4 := by
  have hg := (Mr.messageOf_part h).2
  rw [Mr.good_eq, Bool.and_eq_true] at hg
  have := hg.1
  unfold Mr.within at this
  simp only [Bool.and_eq_true, decide_eq_true_eq] at this
  omega
theorem iv_nums (l : List Nat) : iv (Mr.nums l) = nv l := by
  unfold iv Mr.nums nv
  rw [List.map_map] <;> rfl
theorem iv_told (a : Km356.Ans) : iv (Mr.told a) = .int a.value :: nv a.out := by
  unfold Mr.told
  show V.int a.value :: iv (Mr.nums a.out) = _
  rw [iv_nums]
theorem bytes_length (m : Message) : m.bytes.length = 24 := by
  rw [Mr.bytes_eq, List.length_append, Mr.le_length]
  unfold Mr.body
  rw [List.length_append, List.length_append, List.length_append, Mr.le_length, Mr.le_length, Mr.le_length]
  rfl
section
variable {P : Program} {w : World} {K : Frag} {mg : Str → Option Value} {base : Heap} {A : Ad}
theorem kF_hold (k : Kpr) (t t2 : Addr) (h : Held) : putF "value" (.int h.value) (putF "stamp" (.ref t2) (kF k t)) = kF ⟨k.me, h⟩ t2 := by
  unfold kF
  rw [put_past (by decide +kernel) put_here, put_past (by decide +kernel) (put_past (by decide +kernel) put_here)]
theorem scKO : FnScope ["self", "stamp", "value"] ["self", "stamp", "value"] (defScope sKO) := fnsc
theorem ok_ko {f : Addr} {fd : FuncData} (F : Fun K "hold" "Keeper.hold" sKO f fd) (T : Txt K mg A) : FnOk P w K mg base CX0 1 f fd ["self", "stamp", "value"] (spKO A.K) := by
  refine F.ok scKO (fun vs H Q E h => ?_) (fun cdv A' outer s H vs Q E hr h => ?_)
  · obtain ⟨a, t, kp, h, rfl, _⟩ := h
    rfl
  · obtain ⟨a, t2, kp, h, rfl, ⟨dx, t, ha, ht⟩, ht2, k⟩ := h
    refine ⟨_, pss_one (ps_if (pt_cmpR (op_gtS hr.units0) (pv 1) (pe_fld (pv 0) rfl) (nomark _)) (pss_cons (ps_fld (pv 0) (pv 1) rfl) (pss_one (ps_fld (pv 0) (pv 2) rfl))) pss_nil), ?_⟩
    refine ⟨_, rfl, _, rfl, a, A.K, dx, _, _, rfl, ha, T.clK, T.Kstamp, kF_stamp, t2, t, h.stamp, kp.held.stamp, rfl, rfl, SqT.of ht2, SqT.of ht, _, rfl, ?_⟩
    by_cases c : kp.held.stamp.less h.stamp = true
    · refine if_t c ?_
      refine ⟨_, rfl, _, rfl, a, A.K, dx, _, rfl, ha, T.clK, T.Kstamp, (by show 3 < 1000; decide), ?_⟩
      refine ⟨_, rfl, _, rfl, a, A.K, dx, _, rfl, upd_same, T.clK, T.Kvalue, fw (by show 3 < 999; decide), ?_⟩
      rw [kF_hold, upd_upd]
      have kp2 : Keep [a] H (upd H a (.ins A.K dx (kF ⟨kp.me, h⟩ t2))) := .ins ha (by simp)
      refine k _ ?_ kp2
      have : later kp.held h = h := by unfold later; rw [if_pos c]
      rw [this]
      exact ⟨dx, t2, upd_same, ht2.keep kp2⟩
    · refine if_f (Bool.eq_false_iff.mpr c) ?_
      refine k H ?_ (.refl _ _)
      have : later kp.held h = kp.held := by unfold later; rw [if_neg c]
      rw [this]
      exact ⟨dx, t, ha, ht⟩
theorem scKH : FnScope ["self", "question", "heard", "answer"] ["self", "question"] (defScope sKH) := fnsc
theorem ok_kh {f : Addr} {fd : FuncData} (F : Fun K "qk_heard" "Keeper.qk_heard" sKH f fd) (T : Txt K mg A) (gR : GDef P w K mg base "right_message" 4 ["row"] (spRight K A.M)) (gQ : GDef P w K mg base "is_question" 1 ["message"] (spTest A.M Mr.isQ))
    (cM : CDef P w K mg base A.M "Message" 1 ["self", "kind", "client", "keeper", "operation", "stamp", "value"] (spMI A.M)) (mO : MDef P w K mg base A.K "hold" 1 ["self", "stamp", "value"] (spKO A.K)) (gB : GDef P w K mg base "bytes_of" 3 ["message"] (spBytes A.M)) :
    FnOk P w K mg base CX0 5 f fd ["self", "question"] (spKH K A.K) := by
  refine F.ok scKH (fun vs H Q E h => ?_) (fun cdv A' outer s H vs Q E hr h => ?_)
  · obtain ⟨a, q, kp, l, rfl, _⟩ := h
    rfl
  · obtain ⟨a, q, kp, l, rfl, hK, hS, hl, hb, k⟩ := h
    have hr1 : Room 1 _ := hr.mono (by decide)
    have hr2 : Room 2 _ := hr.mono (by decide)
    have hr3 : Room 3 _ := hr.mono (by decide)
    refine ⟨_, pss_cons (ps_set (i := 2) scKH.nd rfl (Or.inl rfl) (pe_g gR hr (pa_cons (pv 1) pa_nil)))
      (pss_cons (ps_if (PW.pt (pw_or (pt_cmpR op_isN (pv 2) pe_non (nomark _)) (pw_or1 (pt_not (pt_val (pe_g gQ hr1 (pa_cons (pv 2) pa_nil))))))) (pss_one (ps_ret (pe_lst (pa_cons (pe_cst T.WRONG) pa_nil)))) pss_nil)
      (pss_cons (ps_if (pt_cmpR op_eq (pe_fld (pv 2) rfl) (pe_cst T.ASK) (nomark _))
        (pss_one (ps_set (i := 3) scKH.nd rfl (Or.inl rfl) (pe_c cM hr2 (pa_cons (pe_cst T.HOLDS) (pa_cons (pe_fld (pv 2) rfl) (pa_cons (pe_fld (pv 0) rfl) (pa_cons (pe_fld (pv 2) rfl) (pa_cons (pe_fld (pv 0) rfl) (pa_cons (pe_fld (pv 0) rfl) pa_nil)))))))))
        (pss_cons (ps_expr (pe_m (pv 0) T.clK mO hr1 (pa_cons (pe_fld (pv 2) rfl) (pa_cons (pe_fld (pv 2) rfl) pa_nil))))
          (pss_one (ps_set (i := 3) scKH.nd rfl (Or.inl rfl) (pe_c cM hr2 (pa_cons (pe_cst T.IS_HELD) (pa_cons (pe_fld (pv 2) rfl) (pa_cons (pe_fld (pv 0) rfl) (pa_cons (pe_fld (pv 2) rfl) (pa_cons (pe_tup (pa_cons pe_int (pa_cons pe_int pa_nil))) (pa_cons pe_int pa_nil)))))))))))
      (pss_one (ps_ret (pe_op op_cat (pe_lst (pa_cons pe_int pa_nil)) (pe_g gB hr3 (pa_cons (pv 3) pa_nil))))))), ?_⟩
    -- [WRONG_MESSAGE]
    have wrong : ∀ (H1 : Hp) (σ : L2.St), Keep [] H H1 → kDoes kp (.kHeard l) = (kp, Km356.only (-71)) → (tRet (tLst (tCons (tC (.int (-71))) tNil)) : TS) { nx := fun _ H' => Q .non H', rt := Q } σ H1 := by
      intro H1 σ k1 e
      refine ⟨(by show 1 ≤ sizeLine; decide), fun p hp => ?_⟩
      rw [e] at k
      exact k _ p ((hK.same k1).same (.new hp)) (k1.free hp (by simp)) (by rw [upd_same, iv_told] <;> rfl) ((Keep.trans1 (fp := [a]) (k1.mono (by simp)) (.new hp)))
    -- [0] + bytes_of(answer)
    have last : ∀ (H1 : Hp) (b x : Addr) (m : Message), Keep [a] H H1 → MAt A.M H1 x m → KAt A.K H1 a (kDoes kp (.kHeard l)).1 → (kDoes kp (.kHeard l)).2 = { value := 0, out := m.bytes } → H a ≠ none →
        (tRet (tOp rCat (tLst (tCons (tC (.int 0)) tNil)) (tCall (spBytes A.M) [] E0 (tCons (tVar 3) tNil))) : TS) { nx := fun _ H' => Q .non H', rt := Q } [some (.ref a), some (.ref q), some (.ref b), some (.ref x)] H1 := by
      intro H1 b x m k1 hM hK1 e hne
      refine ⟨(by show 1 ≤ sizeLine; decide), fun l1 h1 => ?_⟩
      have k2 : Keep [] H1 (upd H1 l1 (.lst [.int 0])) := .new h1
      refine ⟨_, rfl, x, m, rfl, hM.same k2, fun H3 p3 n3 v3 k3 => ?_⟩
      refine ⟨l1, p3, _, _, rfl, rfl, k3 _ _ upd_same (by simp), v3, ?_, fun p4 n4 => ?_⟩
      · rw [nv_length, bytes_length]
        show 1 + 24 ≤ sizeLine
        decide
      have k4 : Keep [a] H1 H3 := (k2.trans1 k3).mono (by simp)
      have nb : a ≠ p4 := by
        obtain ⟨dx, t, z, _⟩ := ((hK1.same k2).same k3)
        exact ne_of_none z n4
      refine k _ p4 (((hK1.same k2).same k3).same (.new n4)) ?_ ?_ ((k1.trans1 k4).trans1 (.new n4))
      · exact (k1.trans1 k4).free n4 (by simp; exact nb.symm)
      · rw [upd_same, iv_told, e] <;> rfl
    have hne : H a ≠ none := by
      obtain ⟨dx, t, z, _⟩ := hK
      rw [z]; simp
    refine ⟨_, rfl, q, l, rfl, hS, hl, hb, fun hN H1 k1 => ?_, fun m hM H1 x mx nx k1 => ?_⟩
    · refine ⟨_, rfl, rfl, _, rfl, ?_⟩
      exact if_t (decide_eq_true rfl) (if_t rfl (wrong _ _ k1 (kh_none hN)))
    · refine ⟨_, rfl, rfl, _, rfl, ?_⟩
      refine if_f (decide_eq_false (fun z => nomatch z)) ?_
      refine ⟨_, rfl, x, m, rfl, mx, fun H2 k2 => ⟨_, rfl, ?_⟩⟩
      have ks := kh_some (k := kp) hM
      have kc := kind_cases hM
      by_cases c : Mr.isQ m = true
      rotate_left
      · refine if_t (by rw [Bool.eq_false_iff.mpr c] <;> rfl) (wrong _ _ (k1.trans1 k2) ?_)
        unfold Mr.isQ at c
        rw [decide_eq_true_eq] at c
        rw [ks, if_pos (by omega)]
      refine if_f (by rw [c] <;> rfl) ?_
      unfold Mr.isQ at c
      rw [decide_eq_true_eq] at c
      rw [if_neg (by omega)] at ks
      have mx2 := mx.same k2
      have hK2 := (hK.same k1).same k2
      obtain ⟨dm, tm, hm, htm⟩ := mx2
      obtain ⟨dk, tk, hk, htk⟩ := hK2
      have k12 : Keep [] H H2 := k1.trans1 k2
      refine ⟨_, rfl, x, A.M, dm, _, _, rfl, hm, T.clM, T.Mkind, mF_kind, rfl, _, rfl, ?_⟩
      show if decide (V.int (m.kind : Int) = V.int ((1 : Nat) : Int)) = true then _ else _
      rw [decI]
      by_cases d : m.kind = 1
      · have hh : kp.hears m = (kp, ⟨2, m.client, kp.me, m.op, kp.held⟩) := by unfold Km356.Keeper.hears; rw [if_pos d]
        rw [hh] at ks
        refine if_t (decide_eq_true d) ?_
        refine ⟨_, rfl, x, A.M, dm, _, _, rfl, hm, T.clM, T.Mclient, mF_client, _, rfl, a, A.K, dk, _, _, rfl, hk, T.clK, T.Kme, kF_me, _, rfl, x, A.M, dm, _, _, rfl, hm, T.clM, T.Mop, mF_op,
          _, rfl, a, A.K, dk, _, _, rfl, hk, T.clK, T.Kstamp, kF_stamp, _, rfl, a, A.K, dk, _, _, rfl, hk, T.clK, T.Kvalue, kF_value, ?_⟩
        intro y dy ny nd ne
        refine ⟨y, dy, tk, ⟨2, m.client, kp.me, m.op, kp.held⟩, rfl, upd_same, ?_, fun H3 hM3 k3 => ⟨rfl, ?_⟩⟩
        · show upd _ _ _ tk = _
          rw [upd_ne (ne_of_none htk ny), upd_ne (ne_of_none htk nd)]
          exact htk
        have k3' := Keep.made ny nd k3
        refine last _ _ _ _ ((k12.trans1 k3').mono (by simp)) hM3 ?_ ?_ hne
        · rw [ks]
          exact (KAt.same ⟨dk, tk, hk, htk⟩ k3')
        · rw [ks]
      · have hh : kp.hears m = ({ kp with held := later kp.held m.held }, ⟨4, m.client, kp.me, m.op, nothing⟩) := by unfold Km356.Keeper.hears; rw [if_neg d]
        rw [hh] at ks
        refine if_f (decide_eq_false d) ?_
        refine ⟨_, rfl, a, dk, _, rfl, hk, kF_no, _, rfl, x, A.M, dm, _, _, rfl, hm, T.clM, T.Mstamp, mF_stamp, _, rfl, x, A.M, dm, _, _, rfl, hm, T.clM, T.Mvalue, mF_value, ?_⟩
        refine ⟨a, tm, kp, m.held, rfl, ⟨dk, tk, hk, htk⟩, htm, fun H3 hK3 k3 => ?_⟩
        have nxa : x ∉ [a] := by
          rw [List.mem_singleton]
          intro z
          rw [z, hk] at hm
          injection hm with hm
          injection hm with _ _ hm
          have := congrArg List.length hm
          exact absurd this (by show ¬ 3 = 6; decide)
        have hm3 := k3 _ _ hm (fun z => absurd z nxa)
        obtain ⟨dk3, tk3, hk3, htk3⟩ := id hK3
        refine ⟨_, rfl, x, A.M, dm, _, _, rfl, hm3, T.clM, T.Mclient, mF_client, _, rfl, a, A.K, dk3, _, _, rfl, hk3, T.clK, T.Kme, kF_me, _, rfl, x, A.M, dm, _, _, rfl, hm3, T.clM, T.Mop, mF_op,
          (by show 2 ≤ sizeLine; decide), fun t4 n4 => ?_⟩
        intro y dy ny nd ne
        refine ⟨y, dy, t4, ⟨4, m.client, kp.me, m.op, nothing⟩, rfl, upd_same, ?_, fun H5 hM5 k5 => ⟨rfl, ?_⟩⟩
        · show upd _ _ _ t4 = _
          rw [upd_ne (ne_of_none upd_same ny), upd_ne (ne_of_none upd_same nd)]
          exact upd_same
        have k5' := Keep.made ny nd k5
        have k35 : Keep [] H3 H5 := Keep.trans1 (.new n4) k5'
        refine last _ _ _ _ (((k12.mono (fp' := [a]) (by simp)).trans1 k3).trans1 (k35.mono (by simp))) hM5 ?_ ?_ hne
        · rw [ks]
          exact hK3.same k35
        · rw [ks]
end
end Pf

/-! The operation. -/
namespace Pf
open PySem PySem.Spec PyProof.Rows L2
open Km356 (Held Message nothing le num crc messageOf later kDoes)
open Mr (POp PCl allB)
open PySem.W (Frag)
theorem oF_put_asking (o : POp) (l t : Addr) (n : Nat) : putF "asking" (.int n) (oF o l t) = oF { o with asking := n } l t := by
  unfold oF
  rw [put_past (by decide +kernel) (put_past (by decide +kernel) put_here)]
theorem oF_put_answered (o : POp) (l t l' : Addr) : putF "answered" (.ref l') (oF o l t) = oF o l' t := by
  unfold oF
  rw [put_past (by decide +kernel) (put_past (by decide +kernel) (put_past (by decide +kernel) put_here))]
theorem oF_put_stamp (o : POp) (l t t' : Addr) : putF "stamp" (.ref t') (oF o l t) = oF o l t' := by
  unfold oF
  rw [put_past (by decide +kernel) (put_past (by decide +kernel) (put_past (by decide +kernel) (put_past (by decide +kernel) put_here)))]
theorem oF_put_value (o : POp) (l t : Addr) (h : Held) : putF "value" (.int h.value) (oF o l t) = oF { o with held := h } l t := by
  unfold oF
  rw [put_past (by decide +kernel) (put_past (by decide +kernel) (put_past (by decide +kernel) (put_past (by decide +kernel) (put_past (by decide +kernel) put_here))))]
theorem oF_put_done (o : POp) (l t : Addr) (b : Bool) : putF "is_done" (.bl b) (oF o l t) = oF { o with done := b } l t := by
  unfold oF
  rw [put_past (by decide +kernel) (put_past (by decide +kernel) (put_past (by decide +kernel) (put_past (by decide +kernel) (put_past (by decide +kernel) (put_past (by decide +kernel) put_here)))))]
theorem oF_new (cl : Nat) (w : Option Nat) (l t : Addr) : putF "is_done" (.bl false) (putF "value" (.int 0) (putF "stamp" (.ref t) (putF "answered" (.ref l) (putF "asking" (.int 1) (putF "own_value" (oV w) (putF "client" (.int cl) [])))))) = oF (POp.new cl w) l t := by
  rw [put_nil, put_past (by decide +kernel) put_nil, put_past (by decide +kernel) (put_past (by decide +kernel) put_nil), put_past (by decide +kernel) (put_past (by decide +kernel) (put_past (by decide +kernel) put_nil)),
    put_past (by decide +kernel) (put_past (by decide +kernel) (put_past (by decide +kernel) (put_past (by decide +kernel) put_nil))), put_past (by decide +kernel) (put_past (by decide +kernel) (put_past (by decide +kernel) (put_past (by decide +kernel) (put_past (by decide +kernel) put_nil)))),
    put_past (by decide +kernel) (put_past (by decide +kernel) (put_past (by decide +kernel) (put_past (by decide +kernel) (put_past (by decide +kernel) (put_past (by decide +kernel) put_nil)))))]
  rfl
theorem nv_flat : ∀ l : List Nat, (nv l).all flatV = true
  | [] => rfl
  | _ :: l => nv_flat l
theorem in_nv (k : Nat) : ∀ l : List Nat, inV (.int (k : Int)) (nv l) = decide (k ∈ l)
  | [] => rfl
  | x :: l => by
    have ih := in_nv k l
    show (((x : Int) == (k : Int)) || inV (.int (k : Int)) (nv l)) = _
    rw [ih, Bool.eq_iff_iff, Bool.or_eq_true, beq_iff_eq, decide_eq_true_eq, decide_eq_true_eq, List.mem_cons]
    constructor
    · rintro (h | h)
      · exact .inl (by omega)
      · exact .inr h
    · rintro (h | h)
      · exact .inl (by omega)
      · exact .inr h
section
variable {P : Program} {w : World} {K : Frag} {mg : Str → Option Value} {base : Heap} {A : Ad}
theorem scOI : FnScope ["self", "client", "own_value"] ["self", "client", "own_value"] (defScope sOI) := fnsc
theorem ok_oi {f : Addr} {fd : FuncData} (F : Fun K "__init__" "Operation.__init__" sOI f fd) (T : Txt K mg A) : FnOk P w K mg base CX0 1 f fd ["self", "client", "own_value"] (spOI A.O) := by
  refine F.ok scOI (fun vs H Q E h => ?_) (fun cdv A' outer s H vs Q E hr h => ?_)
  · obtain ⟨p, dx, cl, ow, rfl, _⟩ := h
    rfl
  · obtain ⟨p, dx, cl, ow, rfl, hp, k⟩ := h
    refine ⟨_, pss_cons (ps_fld (pv 0) (pv 1) rfl) (pss_cons (ps_fld (pv 0) (pv 2) rfl) (pss_cons (ps_fld (pv 0) (pe_cst T.ASK) rfl) (pss_cons (ps_fld (pv 0) (pe_lst pa_nil) rfl)
      (pss_cons (ps_fld (pv 0) (pe_tup (pa_cons pe_int (pa_cons pe_int pa_nil))) rfl) (pss_cons (ps_fld (pv 0) pe_int rfl) (pss_one (ps_fld (pv 0) pe_bl rfl))))))), ?_⟩
    refine ⟨_, rfl, _, rfl, p, A.O, dx, [], rfl, hp, T.clO, T.Oclient, by decide, ?_⟩
    refine ⟨_, rfl, _, rfl, p, A.O, dx, _, rfl, upd_same, T.clO, T.Oown, fw (by decide), ?_⟩
    refine ⟨_, rfl, p, A.O, dx, _, rfl, upd_same, T.clO, T.Oasking, fw (fw (by decide)), ?_⟩
    refine ⟨(by show 0 ≤ sizeLine; decide), fun l hl => ?_⟩
    have npl : p ≠ l := ne_of_none upd_same hl
    refine ⟨_, rfl, p, A.O, dx, _, rfl, by rw [upd_ne npl]; exact upd_same, T.clO, T.Oanswered, fw (fw (fw (by decide))), ?_⟩
    refine ⟨(by show 2 ≤ sizeLine; decide), fun t ht => ?_⟩
    have npt : p ≠ t := ne_of_none upd_same ht
    have nlt : l ≠ t := ne_of_none (o := .lst []) (by rw [upd_ne npl.symm]; exact upd_same) ht
    refine ⟨_, rfl, p, A.O, dx, _, rfl, by rw [upd_ne npt]; exact upd_same, T.clO, T.Ostamp, fw (fw (fw (fw (by decide)))), ?_⟩
    refine ⟨_, rfl, p, A.O, dx, _, rfl, upd_same, T.clO, T.Ovalue, fw (fw (fw (fw (fw (by decide))))), ?_⟩
    refine ⟨_, rfl, p, A.O, dx, _, rfl, upd_same, T.clO, T.Odone, fw (fw (fw (fw (fw (fw (by decide)))))), ?_⟩
    rw [oF_new]
    refine k _ l ⟨dx, t, upd_same, ?_, ?_⟩ ?_ ?_
    · rw [upd_ne npl.symm, upd_ne npl.symm, upd_ne npl.symm, upd_ne nlt, upd_ne npl.symm]
      exact upd_same
    · show upd _ _ _ t = _
      rw [upd_ne npt.symm, upd_ne npt.symm, upd_ne npt.symm]
      exact upd_same
    · have := hl
      rw [upd_ne npl.symm, upd_ne npl.symm, upd_ne npl.symm] at this
      exact this
    · intro b o e c
      by_cases q : b = p
      · obtain ⟨xs, z⟩ := c (by simp [q])
        rw [q, hp] at e
        rw [z] at e
        cases e
      · have hl0 : H l = none := by
          have := hl
          rw [upd_ne npl.symm, upd_ne npl.symm, upd_ne npl.symm] at this
          exact this
        have hbl : b ≠ l := ne_of_none e hl0
        have ht0 : H t = none := by
          have := ht
          rw [upd_ne npt.symm, upd_ne nlt.symm, upd_ne npt.symm, upd_ne npt.symm, upd_ne npt.symm] at this
          exact this
        have hbt : b ≠ t := ne_of_none e ht0
        rw [upd_ne q, upd_ne q, upd_ne q, upd_ne hbt, upd_ne q, upd_ne hbl, upd_ne q, upd_ne q, upd_ne q]
        exact e
theorem scOG : FnScope ["self"] ["self"] (defScope sOG) := fnsc
theorem ok_og {f : Addr} {fd : FuncData} (F : Fun K "goes_on" "Operation.goes_on" sOG f fd) (T : Txt K mg A) : FnOk P w K mg base CX0 1 f fd ["self"] (spOG A.O) := by
  refine F.ok scOG (fun vs H Q E h => ?_) (fun cdv A' outer s H vs Q E hr h => ?_)
  · obtain ⟨a, l, o, rfl, _⟩ := h
    rfl
  · obtain ⟨a, l, o, rfl, ⟨dx, t, ha, hl, ht⟩, k⟩ := h
    refine ⟨_, pss_one (ps_ret (pe_cmpR op_ne (pe_fld (pv 0) rfl) (pe_cst T.NOTHING) (nomark _))), ?_⟩
    refine ⟨_, rfl, a, A.O, dx, _, _, rfl, ha, T.clO, T.Oasking, oF_asking, rfl, ?_⟩
    show Q (.bl (!decide (V.int (o.asking : Int) = V.int ((0 : Nat) : Int)))) H
    rw [decI]
    have e : (!decide (o.asking = 0)) = o.goesOn := by unfold POp.goesOn; simp
    rw [e]
    exact k
theorem scOA : FnScope ["self", "kind", "keeper"] ["self", "kind", "keeper"] (defScope sOA) := fnsc
theorem ok_oa {f : Addr} {fd : FuncData} (F : Fun K "awaits" "Operation.awaits" sOA f fd) (T : Txt K mg A) : FnOk P w K mg base CX0 1 f fd ["self", "kind", "keeper"] (spOA A.O) := by
  refine F.ok scOA (fun vs H Q E h => ?_) (fun cdv A' outer s H vs Q E hr h => ?_)
  · obtain ⟨a, l, o, x, y, rfl, _⟩ := h
    rfl
  · obtain ⟨a, l, o, kind, keeper, rfl, ⟨dx, t, ha, hl, ht⟩, k⟩ := h
    refine ⟨_, pss_one (ps_ret (pe_and (pe_cmpR op_eq (pv 1) (pe_op op_add (pe_fld (pv 0) rfl) pe_int) (nomark _)) (pe_one (pe_cmpR op_notIn_seq (pv 2) (pe_fld (pv 0) rfl) (by rfl))))), ?_⟩
    refine ⟨_, rfl, _, rfl, a, A.O, dx, _, _, rfl, ha, T.clO, T.Oasking, oF_asking, _, _, rfl, rfl, rfl, _, rfl, ?_⟩
    show if decide (V.int (kind : Int) = V.int ((o.asking + 1 : Nat) : Int)) = true then _ else _
    rw [decI]
    unfold POp.awaits at k
    by_cases c : kind = o.asking + 1
    · refine if_t (decide_eq_true c) ?_
      refine ⟨_, rfl, _, rfl, a, A.O, dx, _, _, rfl, ha, T.clO, T.Oanswered, oF_answered, l, _, rfl, .inl (SqL.of hl), rfl, nv_flat _, ?_⟩
      show Q (.bl (!inV (.int (keeper : Int)) (nv o.answered))) H
      rw [in_nv]
      rw [decide_eq_true c, Bool.true_and] at k
      exact k
    · refine if_f (decide_eq_false c) ?_
      rw [decide_eq_false c, Bool.false_and] at k
      exact k
theorem scOK : FnScope ["self", "answer"] ["self", "answer"] (defScope sOK) := fnsc
theorem ok_ok {f : Addr} {fd : FuncData} (F : Fun K "keep" "Operation.keep" sOK f fd) (T : Txt K mg A) : FnOk P w K mg base CX0 1 f fd ["self", "answer"] (spOK A.O A.M) := by
  refine F.ok scOK (fun vs H Q E h => ?_) (fun cdv A' outer s H vs Q E hr h => ?_)
  · obtain ⟨a, b, l, o, m, rfl, _⟩ := h
    rfl
  · obtain ⟨a, b, l, o, m, rfl, ⟨dx, t, ha, hl, ht⟩, ⟨dm, tm, hm, htm⟩, few, k⟩ := h
    refine ⟨_, pss_cons (ps_expr (pe_bm PySem.F.plainAttrs_list PySem.F.slot_list_append PySem.F.type_list_append mt_append (pe_fld (pv 0) rfl) (pa_cons (pe_fld (pv 1) rfl) pa_nil)))
      (pss_one (ps_if (PW.pt (pw_and (pt_cmpR op_eq (pe_fld (pv 0) rfl) (pe_cst T.ASK) (nomark _)) (pw_and1 (pt_cmpR (op_gtS hr.units0) (pe_fld (pv 1) rfl) (pe_fld (pv 0) rfl) (nomark _)))))
        (pss_cons (ps_fld (pv 0) (pe_fld (pv 1) rfl) rfl) (pss_one (ps_fld (pv 0) (pe_fld (pv 1) rfl) rfl))) pss_nil)), ?_⟩
    refine ⟨_, rfl, a, A.O, dx, _, _, rfl, ha, T.clO, T.Oanswered, oF_answered, .inl ⟨rfl, _, SqL.of hl⟩, _, rfl, b, A.M, dm, _, _, rfl, hm, T.clM, T.Mkeeper, mF_keeper, l, _, _, rfl, rfl, hl, ?_, ?_⟩
    · rw [nv_length]
      exact Nat.lt_of_le_of_lt few (by decide)
    have k1 : Keep [a, l] H (upd H l (.lst (nv o.answered ++ [.int m.keeper]))) := .lst hl (by simp)
    generalize eH1 : upd H l (.lst (nv o.answered ++ [.int m.keeper])) = H1 at k1 ⊢
    have hl1 : H1 l = some (.lst (nv (o.answered ++ [m.keeper]))) := by rw [← eH1, upd_same, nv_append] <;> rfl
    have nal : a ≠ l := ne_of ha hl (fun q => nomatch q)
    have ha1 : H1 a = some (.ins A.O dx (oF o l t)) := by rw [← eH1, upd_ne nal]; exact ha
    have ht1 := ht.keep k1
    have htm1 := htm.keep k1
    have nbl : b ≠ l := ne_of hm hl (fun q => nomatch q)
    have hm1 : H1 b = some (.ins A.M dm (mF m tm)) := by rw [← eH1, upd_ne nbl]; exact hm
    have nba : b ≠ a := by
      intro z
      rw [z, ha] at hm
      injection hm with hm
      injection hm with _ _ hm
      have := congrArg List.length hm
      exact absurd this (by show ¬ 7 = 6; decide)
    clear eH1
    refine ⟨_, rfl, a, A.O, dx, _, _, rfl, ha1, T.clO, T.Oasking, oF_asking, rfl, _, rfl, ?_⟩
    show if decide (V.int (o.asking : Int) = V.int ((1 : Nat) : Int)) = true then _ else _
    rw [decI]
    by_cases c : o.asking = 1
    rotate_left
    · refine if_f (decide_eq_false c) (if_f rfl ?_)
      have e : o.keep m = { o with answered := o.answered ++ [m.keeper] } := by unfold POp.keep; rw [if_neg fun z => c z.1]
      rw [e] at k
      exact k _ ⟨dx, t, ha1, hl1, ht1⟩ k1
    refine if_t (decide_eq_true c) ?_
    refine ⟨_, rfl, b, A.M, dm, _, _, rfl, hm1, T.clM, T.Mstamp, mF_stamp, _, rfl, a, A.O, dx, _, _, rfl, ha1, T.clO, T.Ostamp, oF_stamp, tm, t, m.held.stamp, o.held.stamp, rfl, rfl, SqT.of htm1, SqT.of ht1, _, rfl, ?_⟩
    by_cases d : o.held.stamp.less m.held.stamp = true
    rotate_left
    · refine if_f (Bool.eq_false_iff.mpr d) ?_
      have e : o.keep m = { o with answered := o.answered ++ [m.keeper] } := by unfold POp.keep; rw [if_neg fun z => d z.2]
      rw [e] at k
      exact k _ ⟨dx, t, ha1, hl1, ht1⟩ k1
    refine if_t d ?_
    have e : o.keep m = { o with answered := o.answered ++ [m.keeper], held := m.held } := by unfold POp.keep; rw [if_pos ⟨c, d⟩]
    rw [e] at k
    refine ⟨_, rfl, b, A.M, dm, _, _, rfl, hm1, T.clM, T.Mstamp, mF_stamp, _, rfl, a, A.O, dx, _, rfl, ha1, T.clO, T.Ostamp, (by show 7 < 1000; decide), ?_⟩
    refine ⟨_, rfl, b, A.M, dm, _, _, rfl, by rw [upd_ne nba]; exact hm1, T.clM, T.Mvalue, mF_value, _, rfl, a, A.O, dx, _, rfl, upd_same, T.clO, T.Ovalue, fw (by show 7 < 999; decide), ?_⟩
    rw [oF_put_stamp, oF_put_value, upd_upd]
    have k2 : Keep [a, l] H1 (upd H1 a (.ins A.O dx (oF { o with held := m.held } l tm))) := .ins ha1 (by simp)
    exact k _ ⟨dx, tm, upd_same, by rw [upd_ne nal.symm]; exact hl1, htm1.keep k2⟩ (k1.trans1 k2)
theorem scOT : FnScope ["self"] ["self"] (defScope sOT) := fnsc
theorem ok_ot {f : Addr} {fd : FuncData} (F : Fun K "tell_own_value" "Operation.tell_own_value" sOT f fd) (T : Txt K mg A) : FnOk P w K mg base CX0 1 f fd ["self"] (spOT A.O) := by
  refine F.ok scOT (fun vs H Q E h => ?_) (fun cdv A' outer s H vs Q E hr h => ?_)
  · obtain ⟨a, l, o, v, rfl, _⟩ := h
    rfl
  · obtain ⟨a, l, o, v, rfl, ⟨dx, t, ha, hl, ht⟩, hv, k⟩ := h
    refine ⟨_, pss_cons (ps_if (pt_cmpR op_eq (pe_ix ix_tup (pe_fld (pv 0) rfl) pe_int (fun _ _ => rfl)) (pe_cst T.GNUMBER) (nomark _)) (pss_cons (ps_fld (pv 0) (pe_cst T.NOTHING) rfl) (pss_one ps_retN)) pss_nil)
      (pss_cons (ps_fld (pv 0) (pe_tup (pa_cons (pe_op op_add (pe_ix ix_tup (pe_fld (pv 0) rfl) pe_int (fun _ _ => rfl)) pe_int) (pa_cons (pe_fld (pv 0) rfl) pa_nil))) rfl)
      (pss_cons (ps_fld (pv 0) (pe_fld (pv 0) rfl) rfl) (pss_one (ps_fld (pv 0) (pe_cst T.TELL) rfl)))), ?_⟩
    refine ⟨_, rfl, a, A.O, dx, _, _, rfl, ha, T.clO, T.Ostamp, oF_stamp, t, _, _, _, rfl, rfl, SqT.of ht, at_of (j := 0) rfl rfl, rfl, _, rfl, ?_⟩
    show if decide (V.int (o.held.stamp.number : Int) = V.int ((4294967295 : Nat) : Int)) = true then _ else _
    rw [decI]
    unfold POp.tellOwn at k
    have nal : a ≠ l := ne_of ha hl (fun q => nomatch q)
    by_cases c : o.held.stamp.number = 4294967295
    · refine if_t (decide_eq_true c) ?_
      rw [if_pos c] at k
      refine ⟨_, rfl, a, A.O, dx, _, rfl, ha, T.clO, T.Oasking, (by show 7 < 1000; decide), ?_⟩
      have k1 : Keep [a] H (upd H a (.ins A.O dx (putF "asking" (.int 0) (oF o l t)))) := .ins ha (by simp)
      refine k _ ⟨dx, t, ?_, by rw [upd_ne nal.symm]; exact hl, ht.keep k1⟩ k1
      rw [upd_same]
      exact congrArg (fun q => some (HO.ins A.O dx q)) (oF_put_asking o l t 0)
    · refine if_f (decide_eq_false c) ?_
      rw [if_neg c] at k
      refine ⟨_, rfl, a, A.O, dx, _, _, rfl, ha, T.clO, T.Ostamp, oF_stamp, t, _, _, _, rfl, rfl, SqT.of ht, at_of (j := 0) rfl rfl, _, _, rfl, rfl, _, rfl, a, A.O, dx, _, _, rfl, ha, T.clO, T.Oclient, oF_client, (by show 2 ≤ sizeLine; decide), fun t2 n2 => ?_⟩
      have k1 : Keep [a] H (upd H t2 (.tup [V.int ((o.held.stamp.number : Int) + 1), .int o.client])) := .new n2
      generalize eH1 : upd H t2 (.tup [V.int ((o.held.stamp.number : Int) + 1), .int o.client]) = H1 at k1 ⊢
      have ht1 : StAt H1 t2 ⟨o.held.stamp.number + 1, o.client⟩ := by rw [← eH1]; exact upd_same
      have ha1 : H1 a = some (.ins A.O dx (oF o l t)) := by rw [← eH1, upd_ne (ne_of_none ha n2)]; exact ha
      have hl1 : H1 l = some (.lst (nv o.answered)) := by rw [← eH1, upd_ne (ne_of_none hl n2)]; exact hl
      clear eH1
      refine ⟨_, rfl, a, A.O, dx, _, rfl, ha1, T.clO, T.Ostamp, (by show 7 < 1000; decide), ?_⟩
      rw [oF_put_stamp]
      refine ⟨_, rfl, a, A.O, dx, _, _, rfl, upd_same, T.clO, T.Oown, oF_own, _, rfl, a, A.O, dx, _, rfl, upd_same, T.clO, T.Ovalue, (by show 7 < 1000; decide), ?_⟩
      rw [hv]
      refine ⟨_, rfl, a, A.O, dx, _, rfl, upd_same, T.clO, T.Oasking, fw (by show 7 < 999; decide), ?_⟩
      have e : putF "asking" (.int 3) (putF "value" (oV (some v)) (oF o l t2)) = oF { o with asking := 3, held := ⟨⟨o.held.stamp.number + 1, o.client⟩, v⟩ } l t2 := by
        rw [show oV (some v) = V.int ((⟨⟨o.held.stamp.number + 1, o.client⟩, v⟩ : Held).value : Nat) from rfl, oF_put_value]
        exact oF_put_asking _ l t2 3
      rw [e, upd_upd, upd_upd]
      have k2 : Keep [a] H1 (upd H1 a (.ins A.O dx (oF { o with asking := 3, held := ⟨⟨o.held.stamp.number + 1, o.client⟩, v⟩ } l t2))) := .ins ha1 (by simp)
      exact k _ ⟨dx, t2, upd_same, by rw [upd_ne nal.symm]; exact hl1, ht1.keep k2⟩ (k1.trans1 k2)
theorem scOM : FnScope ["self"] ["self"] (defScope sOM) := fnsc
theorem ok_om {f : Addr} {fd : FuncData} (F : Fun K "go_on_from_most" "Operation.go_on_from_most" sOM f fd) (T : Txt K mg A) (mT : MDef P w K mg base A.O "tell_own_value" 1 ["self"] (spOT A.O)) : FnOk P w K mg base CX0 2 f fd ["self"] (spOM A.O) := by
  refine F.ok scOM (fun vs H Q E h => ?_) (fun cdv A' outer s H vs Q E hr h => ?_)
  · obtain ⟨a, l, o, rfl, _⟩ := h
    rfl
  · obtain ⟨a, l, o, rfl, ⟨dx, t, ha, hl, ht⟩, k⟩ := h
    refine ⟨_, pss_cons (ps_fld (pv 0) (pe_lst pa_nil) rfl)
      (pss_one (ps_if (pt_cmpR op_eq (pe_fld (pv 0) rfl) (pe_cst T.TELL) (nomark _)) (pss_cons (ps_fld (pv 0) (pe_cst T.NOTHING) rfl) (pss_one (ps_fld (pv 0) pe_bl rfl)))
        (pss_one (ps_if (pt_cmpR op_isN (pe_fld (pv 0) rfl) pe_non (nomark _)) (pss_one (ps_fld (pv 0) (pe_cst T.TELL) rfl)) (pss_one (ps_expr (pe_m0 (pv 0) T.clO mT hr))))))), ?_⟩
    refine ⟨(by show 0 ≤ sizeLine; decide), fun l' n' => ?_⟩
    have nal : a ≠ l' := ne_of_none ha n'
    refine ⟨_, rfl, a, A.O, dx, _, rfl, by rw [upd_ne nal]; exact ha, T.clO, T.Oanswered, (by show 7 < 1000; decide), ?_⟩
    rw [oF_put_answered]
    generalize eH1 : upd (upd H l' (.lst [])) a (.ins A.O dx (oF o l' t)) = H1
    have k1 : Keep [a] H H1 := by rw [← eH1]; exact Keep.trans1 (.new n') (.ins (by rw [upd_ne nal]; exact ha) (by simp))
    have ha1 : H1 a = some (.ins A.O dx (oF { o with answered := [] } l' t)) := by rw [← eH1]; exact upd_same
    have hl1 : H1 l' = some (.lst (nv [])) := by rw [← eH1, upd_ne nal.symm]; exact upd_same
    have ht1 := ht.keep k1
    clear eH1
    refine ⟨_, rfl, a, A.O, dx, _, _, rfl, ha1, T.clO, T.Oasking, oF_asking, rfl, _, rfl, ?_⟩
    show if decide (V.int (o.asking : Int) = V.int ((3 : Nat) : Int)) = true then _ else _
    rw [decI]
    unfold POp.goOn at k
    by_cases c : o.asking = 3
    · refine if_t (decide_eq_true c) ?_
      rw [if_pos c] at k
      refine ⟨_, rfl, a, A.O, dx, _, rfl, ha1, T.clO, T.Oasking, (by show 7 < 1000; decide), ?_⟩
      refine ⟨_, rfl, a, A.O, dx, _, rfl, upd_same, T.clO, T.Odone, fw (by show 7 < 999; decide), ?_⟩
      have e : putF "is_done" (.bl true) (putF "asking" (.int 0) (oF { o with answered := [] } l' t)) = oF { o with answered := [], asking := 0, done := true } l' t := by
        rw [show (V.int 0) = V.int ((0 : Nat) : Int) from rfl, oF_put_asking]
        exact oF_put_done _ l' t true
      rw [e, upd_upd]
      have k2 : Keep [a] H1 (upd H1 a (.ins A.O dx (oF { o with answered := [], asking := 0, done := true } l' t))) := .ins ha1 (by simp)
      exact k _ l' ⟨dx, t, upd_same, by rw [upd_ne nal.symm]; exact hl1, ht1.keep k2⟩ n' (k1.trans1 k2)
    · refine if_f (decide_eq_false c) ?_
      rw [if_neg c] at k
      refine ⟨_, rfl, a, A.O, dx, _, _, rfl, ha1, T.clO, T.Oown, oF_own, rfl, _, rfl, ?_⟩
      cases ow : o.own with
      | none =>
        rw [ow] at k
        dsimp only at k
        refine if_t (decide_eq_true rfl) ?_
        refine ⟨_, rfl, a, A.O, dx, _, rfl, ha1, T.clO, T.Oasking, (by show 7 < 1000; decide), ?_⟩
        have k2 : Keep [a] H1 (upd H1 a (.ins A.O dx (putF "asking" (.int 3) (oF { o with answered := [] } l' t)))) := .ins ha1 (by simp)
        refine k _ l' ⟨dx, t, ?_, by rw [upd_ne nal.symm]; exact hl1, ht1.keep k2⟩ n' (k1.trans1 k2)
        rw [upd_same]
        have := oF_put_asking { o with answered := [] } l' t 3
        rw [← ow]
        exact congrArg (fun q => some (HO.ins A.O dx q)) this
      | some v =>
        rw [ow] at k
        dsimp only at k
        refine if_f (decide_eq_false (show ¬ (V.int v = V.non) from fun z => nomatch z)) ?_
        refine ⟨_, rfl, a, dx, _, rfl, ha1, oF_no, a, l', { o with answered := [] }, v, rfl, ⟨dx, t, ha1, hl1, ht1⟩, ow, fun H2 hO k2 => ?_⟩
        refine k H2 l' ?_ n' (k1.trans1 k2)
        rw [← ow]
        exact hO
end
end Pf

/-! The client. -/
namespace Pf
open PySem PySem.Spec PyProof.Rows L2
open Km356 (Held Message nothing le num crc messageOf later kDoes)
open Mr (POp PCl allB)
open PySem.W (Frag)
theorem upd_none {H : Hp} {a b : Addr} {o : HO} (h : upd H a o b = none) : H b = none := by
  by_cases q : b = a
  · subst q
    rw [upd_same] at h
    cases h
  · rwa [upd_ne q] at h
theorem cF_put_me (p : PCl) (v : V) (n : Nat) : putF "me" (.int n) (cF p v) = cF { p with me := n } v := by
  unfold cF
  rw [put_here]
theorem cF_put_keepers (p : PCl) (v : V) (n : Nat) : putF "keepers" (.int n) (cF p v) = cF { p with keepers := n } v := by
  unfold cF
  rw [put_past (by decide +kernel) put_here]
theorem cF_put_begun (p : PCl) (v : V) (n : Nat) : putF "begun" (.int n) (cF p v) = cF { p with begun := n } v := by
  unfold cF
  rw [put_past (by decide +kernel) (put_past (by decide +kernel) put_here)]
theorem cF_put_last (p : PCl) (v v' : V) : putF "last" v' (cF p v) = cF p v' := by
  unfold cF
  rw [put_past (by decide +kernel) (put_past (by decide +kernel) (put_past (by decide +kernel) put_here))]
theorem cF_new : putF "last" .non (putF "begun" (.int 0) (putF "keepers" (.int 0) (putF "me" (.int 0) []))) = cF PCl.fresh .non := by
  rw [put_nil, put_past (by decide +kernel) put_nil, put_past (by decide +kernel) (put_past (by decide +kernel) put_nil), put_past (by decide +kernel) (put_past (by decide +kernel) (put_past (by decide +kernel) put_nil))]
  rfl
theorem co_ne {H : Hp} {c a C dx C' dx' l t : Addr} {p : PCl} {v : V} {o : POp} (h1 : H c = some (.ins C dx (cF p v))) (h2 : H a = some (.ins C' dx' (oF o l t))) : c ≠ a := by
  intro z
  rw [z, h2] at h1
  injection h1 with h1
  injection h1 with _ _ h1
  have := congrArg List.length h1
  exact absurd this (by show ¬ 7 = 4; decide)
section
variable {P : Program} {w : World} {K : Frag} {mg : Str → Option Value} {base : Heap} {A : Ad}
theorem scCI : FnScope ["self"] ["self"] (defScope sCI) := fnsc
theorem ok_ci {f : Addr} {fd : FuncData} (F : Fun K "__init__" "Client.__init__" sCI f fd) (T : Txt K mg A) : FnOk P w K mg base CX0 1 f fd ["self"] (spCI A.C A.O) := by
  refine F.ok scCI (fun vs H Q E h => ?_) (fun cdv A' outer s H vs Q E hr h => ?_)
  · obtain ⟨p, dx, rfl, _⟩ := h
    rfl
  · obtain ⟨p, dx, rfl, hp, k⟩ := h
    refine ⟨_, pss_cons (ps_fld (pv 0) pe_int rfl) (pss_cons (ps_fld (pv 0) pe_int rfl) (pss_cons (ps_fld (pv 0) pe_int rfl) (pss_one (ps_fld (pv 0) pe_non rfl)))), ?_⟩
    refine ⟨_, rfl, p, A.C, dx, [], rfl, hp, T.clC, T.Cme, by decide, ?_⟩
    refine ⟨_, rfl, p, A.C, dx, _, rfl, upd_same, T.clC, T.Ckeepers, fw (by decide), ?_⟩
    refine ⟨_, rfl, p, A.C, dx, _, rfl, upd_same, T.clC, T.Cbegun, fw (fw (by decide)), ?_⟩
    refine ⟨_, rfl, p, A.C, dx, _, rfl, upd_same, T.clC, T.Clast, fw (fw (fw (by decide))), ?_⟩
    rw [cF_new, upd_upd, upd_upd, upd_upd]
    exact k _ ⟨dx, .non, upd_same, rfl, rfl⟩ (.ins hp (by simp))
theorem scCS : FnScope ["self", "me", "keepers"] ["self", "me", "keepers"] (defScope sCS) := fnsc
theorem ok_cs {f : Addr} {fd : FuncData} (F : Fun K "qc_start" "Client.qc_start" sCS f fd) (T : Txt K mg A) : FnOk P w K mg base CX0 1 f fd ["self", "me", "keepers"] (spCS A.C A.O) := by
  refine F.ok scCS (fun vs H Q E h => ?_) (fun cdv A' outer s H vs Q E hr h => ?_)
  · obtain ⟨c, p, fp, me, n, rfl, _⟩ := h
    rfl
  · obtain ⟨c, p, fp, me, n, rfl, hC, k⟩ := h
    refine ⟨_, pss_cons (ps_if (PW.pt (pw_or (pt_cmpR op_gt (pv 1) (pe_cst T.GCLIENT) (nomark _)) (pw_or1 (pt_not (pt_chain op_le op_le pe_int (pv 2) (pe_cst T.GCOUNT)))))) (pss_one (ps_ret (pe_cst T.RANGE))) pss_nil)
      (pss_cons (ps_fld (pv 0) (pv 1) rfl) (pss_cons (ps_fld (pv 0) (pv 2) rfl) (pss_cons (ps_fld (pv 0) pe_int rfl) (pss_cons (ps_fld (pv 0) pe_non rfl) (pss_one (ps_ret pe_int)))))), ?_⟩
    unfold PCl.starts at k
    have no : (15 < me ∨ ¬ (1 ≤ n ∧ n ≤ 15)) → Q (.int (-22)) H := fun z => by
      rw [if_pos z] at k
      exact k H fp hC (fun x h => .inl h) (.refl _ _)
    refine ⟨_, rfl, _, _, rfl, rfl, _, rfl, ?_⟩
    by_cases c1 : 15 < me
    · exact if_t (decide_eq_true (show (15 : Int) < (me : Int) by omega)) (if_t rfl (no (.inl c1)))
    refine if_f (decide_eq_false (show ¬ (15 : Int) < (me : Int) by omega)) ?_
    refine ⟨_, rfl, _, _, rfl, rfl, _, rfl, ?_⟩
    by_cases c2 : 1 ≤ n
    rotate_left
    · exact if_f (decide_eq_false (show ¬ (1 : Int) ≤ (n : Int) by omega)) ⟨_, rfl, if_t rfl (no (.inr fun z => c2 z.1))⟩
    refine if_t (decide_eq_true (show (1 : Int) ≤ (n : Int) by omega)) ?_
    refine ⟨_, _, rfl, rfl, _, rfl, ?_⟩
    by_cases c3 : n ≤ 15
    rotate_left
    · exact if_t (by rw [decide_eq_false (show ¬ (n : Int) ≤ 15 by omega)] <;> rfl) (no (.inr fun z => c3 z.2))
    refine if_f (by rw [decide_eq_true (show (n : Int) ≤ 15 by omega)] <;> rfl) ?_
    rw [if_neg (show ¬ (15 < me ∨ ¬ (1 ≤ n ∧ n ≤ 15)) by omega)] at k
    have mem := hC.mem
    obtain ⟨dx, v, hc, _⟩ := hC
    refine ⟨_, rfl, _, rfl, c, A.C, dx, _, rfl, hc, T.clC, T.Cme, (by show 4 < 1000; decide), ?_⟩
    refine ⟨_, rfl, _, rfl, c, A.C, dx, _, rfl, upd_same, T.clC, T.Ckeepers, fw (by show 4 < 999; decide), ?_⟩
    refine ⟨_, rfl, c, A.C, dx, _, rfl, upd_same, T.clC, T.Cbegun, fw (fw (by show 4 < 998; decide)), ?_⟩
    refine ⟨_, rfl, c, A.C, dx, _, rfl, upd_same, T.clC, T.Clast, fw (fw (fw (by show 4 < 997; decide))), ?_⟩
    rw [cF_put_me, cF_put_keepers, show (V.int 0) = V.int ((0 : Nat) : Int) from rfl, cF_put_begun, cF_put_last, upd_upd, upd_upd, upd_upd]
    exact k _ [c] ⟨dx, .non, upd_same, rfl, rfl⟩ (fun x h => .inl (by rw [List.mem_singleton] at h; rw [h]; exact mem)) (.ins hc mem)
theorem scCG : FnScope ["self"] ["self"] (defScope sCG) := fnsc
theorem ok_cg {f : Addr} {fd : FuncData} (F : Fun K "has_one_going_on" "Client.has_one_going_on" sCG f fd) (T : Txt K mg A) (mG : MDef P w K mg base A.O "goes_on" 1 ["self"] (spOG A.O)) : FnOk P w K mg base CX0 2 f fd ["self"] (spCG A.C A.O) := by
  refine F.ok scCG (fun vs H Q E h => ?_) (fun cdv A' outer s H vs Q E hr h => ?_)
  · obtain ⟨c, p, fp, rfl, _⟩ := h
    rfl
  · obtain ⟨c, p, fp, rfl, ⟨dx, v, hc, h2⟩, k⟩ := h
    refine ⟨_, pss_one (ps_ret (pe_and (pe_cmpR op_notN (pe_fld (pv 0) rfl) pe_non (nomark _)) (pe_one (pe_m0 (pe_fld (pv 0) rfl) T.clO mG hr)))), ?_⟩
    refine ⟨_, rfl, c, A.C, dx, _, _, rfl, hc, T.clC, T.Clast, cF_last, rfl, _, rfl, ?_⟩
    unfold PCl.going at k
    cases e : p.last with
    | none =>
      rw [e] at h2 k
      obtain ⟨rfl, rfl⟩ := h2
      exact if_f (by simp) k
    | some o =>
      rw [e] at h2 k
      obtain ⟨a, l, rfl, rfl, hO⟩ := h2
      obtain ⟨dx2, t, ha, _⟩ := id hO
      refine if_t (by simp) ?_
      exact ⟨_, rfl, c, A.C, dx, _, _, rfl, hc, T.clC, T.Clast, cF_last, a, dx2, _, rfl, ha, oF_no, a, l, o, rfl, hO, k⟩
theorem scCB : FnScope ["self", "own_value"] ["self", "own_value"] (defScope sCB) := fnsc
theorem ok_cb {f : Addr} {fd : FuncData} (F : Fun K "begin" "Client.begin" sCB f fd) (T : Txt K mg A) (mG : MDef P w K mg base A.C "has_one_going_on" 2 ["self"] (spCG A.C A.O)) (cO : CDef P w K mg base A.O "Operation" 1 ["self", "client", "own_value"] (spOI A.O)) :
    FnOk P w K mg base CX0 4 f fd ["self", "own_value"] (spCB A.C A.O) := by
  refine F.ok scCB (fun vs H Q E h => ?_) (fun cdv A' outer s H vs Q E hr h => ?_)
  · obtain ⟨c, p, fp, ow, rfl, _⟩ := h
    rfl
  · obtain ⟨c, p, fp, ow, rfl, hC, k⟩ := h
    have hr2 : Room 2 _ := hr.mono (by decide)
    refine ⟨_, pss_cons (ps_if (pt_val (pe_m0 (pv 0) T.clC mG hr2)) (pss_one (ps_ret (pe_cst T.GOES_ON))) pss_nil)
      (pss_cons (ps_if (pt_cmpR op_eq (pe_fld (pv 0) rfl) (pe_cst T.GOP) (nomark _)) (pss_one (ps_ret (pe_cst T.USED_UP))) pss_nil)
      (pss_cons (ps_fldaug (pv 0) pe_int in_add)
      (pss_cons (ps_fld (pv 0) (pe_c cO hr2 (pa_cons (pe_fld (pv 0) rfl) (pa_cons (pv 1) pa_nil))) rfl)
      (pss_one (ps_ret pe_int))))), ?_⟩
    have mem := hC.mem
    obtain ⟨dx, v, hc, h2⟩ := id hC
    unfold PCl.begins at k
    refine ⟨_, rfl, c, dx, _, rfl, hc, cF_no, c, p, fp, rfl, hC, _, rfl, ?_⟩
    by_cases g : p.going = true
    · rw [if_pos g] at k
      exact if_t g (k H fp hC (fun x h => .inl h) (.refl _ _))
    refine if_f (Bool.eq_false_iff.mpr g) ?_
    rw [if_neg g] at k
    refine ⟨_, rfl, c, A.C, dx, _, _, rfl, hc, T.clC, T.Cbegun, cF_begun, rfl, _, rfl, ?_⟩
    show if decide (V.int (p.begun : Int) = V.int ((4294967295 : Nat) : Int)) = true then _ else _
    rw [decI]
    by_cases d : p.begun = 4294967295
    · rw [if_pos d] at k
      exact if_t (decide_eq_true d) (k H fp hC (fun x h => .inl h) (.refl _ _))
    refine if_f (decide_eq_false d) ?_
    rw [if_neg d] at k
    refine ⟨_, rfl, c, A.C, dx, _, _, rfl, hc, T.clC, T.Cbegun, cF_begun, _, _, rfl, rfl, dx, _, hc, (by show 4 < 1000; decide), ?_⟩
    rw [show (V.int ((p.begun : Int) + 1)) = V.int ((p.begun + 1 : Nat) : Int) from rfl, cF_put_begun]
    generalize eH1 : upd H c (.ins A.C dx (cF { p with begun := p.begun + 1 } v)) = H1
    have k1 : Keep fp H H1 := by rw [← eH1]; exact .ins hc mem
    have hc1 : H1 c = some (.ins A.C dx (cF { p with begun := p.begun + 1 } v)) := by rw [← eH1]; exact upd_same
    have back : ∀ x, H1 x = none → H x = none := fun x z => by rw [← eH1] at z; exact upd_none z
    clear eH1
    refine ⟨_, rfl, c, A.C, dx, _, _, rfl, hc1, T.clC, T.Cme, cF_me, _, rfl, ?_⟩
    intro x dx2 nx nd ne
    refine ⟨x, dx2, p.me, ow, rfl, upd_same, fun H2 l hO nl k2 => ⟨rfl, ?_⟩⟩
    have k2' := Keep.made nx nd k2
    have hc2 := k2' _ _ hc1 (by simp)
    refine ⟨_, rfl, c, A.C, dx, _, rfl, hc2, T.clC, T.Clast, (by show 4 < 1000; decide), ?_⟩
    rw [cF_put_last]
    have nx0 := back x nx
    have nl0 := back l (upd_none (upd_none nl))
    obtain ⟨dx3, t3, hx2, hl2, _⟩ := id hO
    have ncx : c ≠ x := co_ne hc2 hx2
    have ncl : c ≠ l := ne_of hc2 hl2 (fun q => nomatch q)
    have k3 : Keep fp H2 (upd H2 c (.ins A.C dx (cF { p with begun := p.begun + 1 } (.ref x)))) := .ins hc2 mem
    have k3s : Keep [c] H2 (upd H2 c (.ins A.C dx (cF { p with begun := p.begun + 1 } (.ref x)))) := .ins hc2 (by simp)
    refine k _ [c, x, l] ⟨dx, .ref x, upd_same, x, l, rfl, rfl, hO.keep k3s (by simp; exact ncx.symm) (by simp; exact ncl.symm)⟩ ?_ ((k1.trans1 (k2'.mono (by simp))).trans1 k3)
    intro y hy
    simp only [List.mem_cons, List.not_mem_nil, or_false] at hy
    rcases hy with rfl | rfl | rfl
    · exact .inl mem
    · exact .inr nx0
    · exact .inr nl0
theorem scCR : FnScope ["self"] ["self"] (defScope sCR) := fnsc
theorem ok_cr {f : Addr} {fd : FuncData} (F : Fun K "qc_read" "Client.qc_read" sCR f fd) (T : Txt K mg A) (mB : MDef P w K mg base A.C "begin" 4 ["self", "own_value"] (spCB A.C A.O)) : FnOk P w K mg base CX0 5 f fd ["self"] (spCR A.C A.O) := by
  refine F.ok scCR (fun vs H Q E h => ?_) (fun cdv A' outer s H vs Q E hr h => ?_)
  · obtain ⟨c, p, fp, rfl, _⟩ := h
    rfl
  · obtain ⟨c, p, fp, rfl, hC, k⟩ := h
    refine ⟨_, pss_one (ps_ret (pe_m (pv 0) T.clC mB hr (pa_cons pe_non pa_nil))), ?_⟩
    obtain ⟨dx, v, hc, h2⟩ := id hC
    exact ⟨_, rfl, c, dx, _, rfl, hc, cF_no, c, p, fp, none, rfl, hC, k⟩
theorem scCW : FnScope ["self", "value"] ["self", "value"] (defScope sCW) := fnsc
theorem ok_cw {f : Addr} {fd : FuncData} (F : Fun K "qc_write" "Client.qc_write" sCW f fd) (T : Txt K mg A) (mB : MDef P w K mg base A.C "begin" 4 ["self", "own_value"] (spCB A.C A.O)) : FnOk P w K mg base CX0 5 f fd ["self", "value"] (spCW A.C A.O) := by
  refine F.ok scCW (fun vs H Q E h => ?_) (fun cdv A' outer s H vs Q E hr h => ?_)
  · obtain ⟨c, p, fp, v, rfl, _⟩ := h
    rfl
  · obtain ⟨c, p, fp, v, rfl, hC, k⟩ := h
    refine ⟨_, pss_one (ps_ret (pe_m (pv 0) T.clC mB hr (pa_cons (pv 1) pa_nil))), ?_⟩
    obtain ⟨dx, u, hc, h2⟩ := id hC
    exact ⟨_, rfl, c, dx, _, rfl, hc, cF_no, _, rfl, c, p, fp, some v, rfl, hC, k⟩
theorem scCA : FnScope ["self", "heard"] ["self", "heard"] (defScope sCA) := fnsc
theorem ok_ca {f : Addr} {fd : FuncData} (F : Fun K "awaits" "Client.awaits" sCA f fd) (T : Txt K mg A) (mG : MDef P w K mg base A.C "has_one_going_on" 2 ["self"] (spCG A.C A.O)) (mA : MDef P w K mg base A.O "awaits" 1 ["self", "kind", "keeper"] (spOA A.O)) :
    FnOk P w K mg base CX0 3 f fd ["self", "heard"] (spCA A.C A.O A.M) := by
  refine F.ok scCA (fun vs H Q E h => ?_) (fun cdv A' outer s H vs Q E hr h => ?_)
  · obtain ⟨c, b, p, fp, m, rfl, _⟩ := h
    rfl
  · obtain ⟨c, b, p, fp, m, rfl, hC, ⟨dm, tm, hm, htm⟩, k⟩ := h
    have hr1 : Room 1 _ := hr.mono (by decide)
    refine ⟨_, pss_one (ps_ret (pe_and (pe_m0 (pv 0) T.clC mG hr) (pe_and (pe_cmpR op_eq (pe_fld (pv 1) rfl) (pe_fld (pv 0) rfl) (nomark _)) (pe_and (pe_cmpR op_eq (pe_fld (pv 1) rfl) (pe_fld (pv 0) rfl) (nomark _))
      (pe_and (pe_cmpR op_lt (pe_fld (pv 1) rfl) (pe_fld (pv 0) rfl) (nomark _)) (pe_one (pe_m (pe_fld (pv 0) rfl) T.clO mA hr1 (pa_cons (pe_fld (pv 1) rfl) (pa_cons (pe_fld (pv 1) rfl) pa_nil))))))))), ?_⟩
    obtain ⟨dx, v, hc, h2⟩ := id hC
    refine ⟨_, rfl, c, dx, _, rfl, hc, cF_no, c, p, fp, rfl, hC, _, rfl, ?_⟩
    unfold PCl.awaits at k
    unfold PCl.going
    cases e : p.last with
    | none =>
      rw [e] at k
      exact if_f rfl k
    | some o =>
      rw [e] at h2 k
      obtain ⟨a, l, rfl, rfl, hO⟩ := h2
      obtain ⟨dx2, t, ha, _⟩ := id hO
      dsimp only at k ⊢
      by_cases g : o.goesOn = true
      rotate_left
      · rw [Bool.eq_false_iff.mpr g, Bool.false_and] at k
        exact if_f (Bool.eq_false_iff.mpr g) k
      rw [g, Bool.true_and] at k
      refine if_t g ?_
      refine ⟨_, rfl, b, A.M, dm, _, _, rfl, hm, T.clM, T.Mclient, mF_client, _, rfl, c, A.C, dx, _, _, rfl, hc, T.clC, T.Cme, cF_me, rfl, _, rfl, ?_⟩
      rw [decI]
      by_cases c1 : m.client = p.me
      rotate_left
      · rw [decide_eq_false c1, Bool.false_and] at k
        exact if_f (decide_eq_false c1) k
      rw [decide_eq_true c1, Bool.true_and] at k
      refine if_t (decide_eq_true c1) ?_
      refine ⟨_, rfl, b, A.M, dm, _, _, rfl, hm, T.clM, T.Mop, mF_op, _, rfl, c, A.C, dx, _, _, rfl, hc, T.clC, T.Cbegun, cF_begun, rfl, _, rfl, ?_⟩
      rw [decI]
      by_cases c2 : m.op = p.begun
      rotate_left
      · rw [decide_eq_false c2, Bool.false_and] at k
        exact if_f (decide_eq_false c2) k
      rw [decide_eq_true c2, Bool.true_and] at k
      refine if_t (decide_eq_true c2) ?_
      refine ⟨_, rfl, b, A.M, dm, _, _, rfl, hm, T.clM, T.Mkeeper, mF_keeper, _, rfl, c, A.C, dx, _, _, rfl, hc, T.clC, T.Ckeepers, cF_keepers, _, _, rfl, rfl, _, rfl, ?_⟩
      by_cases c3 : m.keeper < p.keepers
      rotate_left
      · rw [decide_eq_false c3, Bool.false_and] at k
        exact if_f (decide_eq_false (by omega)) k
      rw [decide_eq_true c3, Bool.true_and] at k
      refine if_t (decide_eq_true (by omega)) ?_
      exact ⟨_, rfl, c, A.C, dx, _, _, rfl, hc, T.clC, T.Clast, cF_last, a, dx2, _, rfl, ha, oF_no, _, rfl, b, A.M, dm, _, _, rfl, hm, T.clM, T.Mkind, mF_kind, _, rfl, b, A.M, dm, _, _, rfl, hm, T.clM, T.Mkeeper, mF_keeper, a, l, o, m.kind, m.keeper, rfl, hO, k⟩
end
end Pf

/-! The client: qc_say, qc_heard, qc_done; the reader. -/
namespace Pf
open PySem PySem.Spec PyProof.Rows L2
open Km356 (Held Message nothing le num crc messageOf later kDoes)
open Mr (POp PCl allB)
open PySem.W (Frag)
theorem iv_at {l : List Int} {i : Nat} {z : Int} (h : l[i]? = some z) : (iv l)[i]? = some (.int z) := by
  unfold iv
  rw [List.getElem?_map, h] <;> rfl
theorem iv_length (l : List Int) : (iv l).length = l.length := by unfold iv; rw [List.length_map]
theorem iv_cons_nums (l : List Nat) : iv (0 :: Mr.nums l) = .int 0 :: nv l := by
  show V.int 0 :: iv (Mr.nums l) = _
  rw [iv_nums]
theorem cut_row (ns : List Int) (i n : Nat) (h : i < ns.length) : cutV (iv ns) (some ((i + 1 : Nat) : Int)) (some ((i + 1 + n : Nat) : Int)) = iv ((ns.drop (i + 1)).take n) := by
  unfold cutV
  rw [HT.sIx_nat, HT.sIx_nat, iv_length, Nat.min_eq_left (show i + 1 ≤ ns.length by omega)]
  unfold iv
  rw [← List.map_drop, ← List.map_take]
  congr 1
  by_cases c : i + 1 + n ≤ ns.length
  · rw [Nat.min_eq_left c, Nat.add_sub_cancel_left]
  · rw [Nat.min_eq_right (by omega), List.take_of_length_le (by rw [List.length_drop]; omega), List.take_of_length_le (by rw [List.length_drop]; omega)]
section
variable {P : Program} {w : World} {K : Frag} {mg : Str → Option Value} {base : Heap} {A : Ad}
theorem scCY : FnScope ["self", "question"] ["self"] (defScope sCY) := fnsc
theorem ok_cy {f : Addr} {fd : FuncData} (F : Fun K "qc_say" "Client.qc_say" sCY f fd) (T : Txt K mg A) (mG : MDef P w K mg base A.C "has_one_going_on" 2 ["self"] (spCG A.C A.O))
    (cM : CDef P w K mg base A.M "Message" 1 ["self", "kind", "client", "keeper", "operation", "stamp", "value"] (spMI A.M)) (gB : GDef P w K mg base "bytes_of" 3 ["message"] (spBytes A.M)) :
    FnOk P w K mg base CX0 5 f fd ["self"] (spCY A.C A.O) := by
  refine F.ok scCY (fun vs H Q E h => ?_) (fun cdv A' outer s H vs Q E hr h => ?_)
  · obtain ⟨c, p, fp, rfl, _⟩ := h
    rfl
  · obtain ⟨c, p, fp, rfl, hC, k⟩ := h
    have hr2 : Room 2 _ := hr.mono (by decide)
    have hr3 : Room 3 _ := hr.mono (by decide)
    refine ⟨_, pss_cons (ps_if (pt_not (pt_val (pe_m0 (pv 0) T.clC mG hr2))) (pss_one (ps_ret (pe_lst (pa_cons (pe_cst T.NOT_NOW) pa_nil)))) pss_nil)
      (pss_cons (ps_if (pt_cmpR op_eq (pe_fld (pe_fld (pv 0) rfl) rfl) (pe_cst T.ASK) (nomark _))
        (pss_one (ps_set (i := 1) scCY.nd rfl (Or.inl rfl) (pe_c cM hr2 (pa_cons (pe_cst T.ASK) (pa_cons (pe_fld (pv 0) rfl) (pa_cons pe_int (pa_cons (pe_fld (pv 0) rfl) (pa_cons (pe_tup (pa_cons pe_int (pa_cons pe_int pa_nil))) (pa_cons pe_int pa_nil)))))))))
        (pss_one (ps_set (i := 1) scCY.nd rfl (Or.inl rfl) (pe_c cM hr2 (pa_cons (pe_cst T.TELL) (pa_cons (pe_fld (pv 0) rfl) (pa_cons pe_int (pa_cons (pe_fld (pv 0) rfl) (pa_cons (pe_fld (pe_fld (pv 0) rfl) rfl) (pa_cons (pe_fld (pe_fld (pv 0) rfl) rfl) pa_nil))))))))))
      (pss_one (ps_ret (pe_op op_cat (pe_lst (pa_cons pe_int pa_nil)) (pe_g gB hr3 (pa_cons (pv 1) pa_nil)))))), ?_⟩
    have last : ∀ (H1 : Hp) (x : Addr) (m : Message), Keep [] H H1 → MAt A.M H1 x m → p.said = 0 :: Mr.nums m.bytes →
        (tRet (tOp rCat (tLst (tCons (tC (.int 0)) tNil)) (tCall (spBytes A.M) [] E0 (tCons (tVar 1) tNil))) : TS) { nx := fun _ H' => Q .non H', rt := Q } [some (.ref c), some (.ref x)] H1 := by
      intro H1 x m k1 hM e
      refine ⟨(by show 1 ≤ sizeLine; decide), fun l1 h1 => ?_⟩
      have k2 : Keep [] H1 (upd H1 l1 (.lst [.int 0])) := .new h1
      refine ⟨_, rfl, x, m, rfl, hM.same k2, fun H3 p3 n3 v3 k3 => ?_⟩
      refine ⟨l1, p3, _, _, rfl, rfl, k3 _ _ upd_same (by simp), v3, ?_, fun p4 n4 => ?_⟩
      · rw [nv_length, bytes_length]
        show 1 + 24 ≤ sizeLine
        decide
      refine k _ p4 (((k1.trans1 k2).trans1 k3).free n4 (by simp)) ?_ (((k1.trans1 k2).trans1 k3).trans1 (.new n4))
      rw [upd_same, e, iv_cons_nums] <;> rfl
    obtain ⟨dx, v, hc, h2⟩ := id hC
    refine ⟨_, rfl, c, dx, _, rfl, hc, cF_no, c, p, fp, rfl, hC, _, rfl, ?_⟩
    by_cases g : p.going = true
    rotate_left
    · refine if_t (by rw [Bool.eq_false_iff.mpr g] <;> rfl) ?_
      refine ⟨(by show 1 ≤ sizeLine; decide), fun q hq => ?_⟩
      refine k _ q hq ?_ (.new hq)
      have e : p.said = [-11] := by
        unfold PCl.said
        unfold PCl.going at g
        cases e : p.last with
        | none => rfl
        | some o => rw [e] at g; dsimp only at g ⊢; rw [if_neg g]
      rw [upd_same, e] <;> rfl
    refine if_f (by rw [g] <;> rfl) ?_
    unfold PCl.going at g
    cases e : p.last with
    | none => rw [e] at g; cases g
    | some o =>
      rw [e] at h2 g
      obtain ⟨a, l, rfl, rfl, hO⟩ := h2
      obtain ⟨dx2, t, ha, hl, ht⟩ := id hO
      dsimp only at g
      have es : p.said = 0 :: Mr.nums (p.question o).bytes := by
        unfold PCl.said
        rw [e]
        dsimp only
        rw [if_pos g]
      refine ⟨_, rfl, c, A.C, dx, _, _, rfl, hc, T.clC, T.Clast, cF_last, a, A.O, dx2, _, _, rfl, ha, T.clO, T.Oasking, oF_asking, rfl, _, rfl, ?_⟩
      show if decide (V.int (o.asking : Int) = V.int ((1 : Nat) : Int)) = true then _ else _
      rw [decI]
      by_cases d : o.asking = 1
      · refine if_t (decide_eq_true d) ?_
        refine ⟨_, rfl, c, A.C, dx, _, _, rfl, hc, T.clC, T.Cme, cF_me, _, rfl, c, A.C, dx, _, _, rfl, hc, T.clC, T.Cbegun, cF_begun, (by show 2 ≤ sizeLine; decide), fun t2 n2 => ?_⟩
        intro y dy ny nd ne
        refine ⟨y, dy, t2, ⟨1, p.me, 0, p.begun, nothing⟩, rfl, upd_same, ?_, fun H3 hM3 k3 => ⟨rfl, ?_⟩⟩
        · show upd _ _ _ t2 = _
          rw [upd_ne (ne_of_none upd_same ny), upd_ne (ne_of_none upd_same nd)]
          exact upd_same
        refine last _ _ _ (Keep.trans1 (.new n2) (Keep.made ny nd k3)) hM3 ?_
        rw [es]
        unfold PCl.question
        rw [if_pos d]
      · refine if_f (decide_eq_false d) ?_
        refine ⟨_, rfl, c, A.C, dx, _, _, rfl, hc, T.clC, T.Cme, cF_me, _, rfl, c, A.C, dx, _, _, rfl, hc, T.clC, T.Cbegun, cF_begun,
          _, rfl, c, A.C, dx, _, _, rfl, hc, T.clC, T.Clast, cF_last, a, A.O, dx2, _, _, rfl, ha, T.clO, T.Ostamp, oF_stamp, _, rfl, c, A.C, dx, _, _, rfl, hc, T.clC, T.Clast, cF_last, a, A.O, dx2, _, _, rfl, ha, T.clO, T.Ovalue, oF_value, ?_⟩
        intro y dy ny nd ne
        refine ⟨y, dy, t, ⟨3, p.me, 0, p.begun, o.held⟩, rfl, upd_same, ?_, fun H3 hM3 k3 => ⟨rfl, ?_⟩⟩
        · show upd _ _ _ t = _
          rw [upd_ne (ne_of_none ht ny), upd_ne (ne_of_none ht nd)]
          exact ht
        refine last _ _ _ (Keep.made ny nd k3) hM3 ?_
        rw [es]
        unfold PCl.question
        rw [if_neg d]
theorem scCD : FnScope ["self"] ["self"] (defScope sCD) := fnsc
theorem ok_cd {f : Addr} {fd : FuncData} (F : Fun K "qc_done" "Client.qc_done" sCD f fd) (T : Txt K mg A) (mG : MDef P w K mg base A.O "goes_on" 1 ["self"] (spOG A.O)) : FnOk P w K mg base CX0 2 f fd ["self"] (spCD A.C A.O) := by
  refine F.ok scCD (fun vs H Q E h => ?_) (fun cdv A' outer s H vs Q E hr h => ?_)
  · obtain ⟨c, p, fp, rfl, _⟩ := h
    rfl
  · obtain ⟨c, p, fp, rfl, ⟨dx, v, hc, h2⟩, k⟩ := h
    refine ⟨_, pss_cons (ps_if (PW.pt (pw_or (pt_cmpR op_isN (pe_fld (pv 0) rfl) pe_non (nomark _)) (pw_or1 (pt_val (pe_m0 (pe_fld (pv 0) rfl) T.clO mG hr))))) (pss_one (ps_ret (pe_lst (pa_cons (pe_cst T.NOT_NOW) pa_nil)))) pss_nil)
      (pss_cons (ps_if (pt_not (pt_val (pe_fld (pe_fld (pv 0) rfl) rfl))) (pss_one (ps_ret (pe_lst (pa_cons (pe_cst T.COULD) pa_nil)))) pss_nil)
      (pss_one (ps_ret (pe_lst (pa_cons pe_int (pa_cons (pe_fld (pe_fld (pv 0) rfl) rfl) pa_nil)))))), ?_⟩
    refine ⟨_, rfl, c, A.C, dx, _, _, rfl, hc, T.clC, T.Clast, cF_last, rfl, _, rfl, ?_⟩
    unfold PCl.ended at k
    cases e : p.last with
    | none =>
      rw [e] at h2 k
      obtain ⟨rfl, rfl⟩ := h2
      exact if_t (decide_eq_true rfl) (if_t rfl ⟨(by show 1 ≤ sizeLine; decide), fun q hq => k _ q hq upd_same (.new hq)⟩)
    | some o =>
      rw [e] at h2 k
      obtain ⟨a, l, rfl, rfl, hO⟩ := h2
      obtain ⟨dx2, t, ha, _⟩ := id hO
      dsimp only at k
      refine if_f (decide_eq_false fun z => nomatch z) ?_
      refine ⟨_, rfl, c, A.C, dx, _, _, rfl, hc, T.clC, T.Clast, cF_last, a, dx2, _, rfl, ha, oF_no, a, l, o, rfl, hO, _, rfl, ?_⟩
      by_cases g : o.goesOn = true
      · rw [if_pos g] at k
        exact if_t g ⟨(by show 1 ≤ sizeLine; decide), fun q hq => k _ q hq upd_same (.new hq)⟩
      rw [if_neg g] at k
      refine if_f (Bool.eq_false_iff.mpr g) ?_
      refine ⟨_, rfl, c, A.C, dx, _, _, rfl, hc, T.clC, T.Clast, cF_last, a, A.O, dx2, _, _, rfl, ha, T.clO, T.Odone, oF_done, _, rfl, ?_⟩
      by_cases d : o.done = false
      · rw [if_pos d] at k
        exact if_t (by rw [d] <;> rfl) ⟨(by show 1 ≤ sizeLine; decide), fun q hq => k _ q hq upd_same (.new hq)⟩
      rw [if_neg d] at k
      have d' : o.done = true := by
        cases z : o.done with
        | false => exact absurd z d
        | true => rfl
      refine if_f (by rw [d'] <;> rfl) ?_
      exact ⟨_, rfl, c, A.C, dx, _, _, rfl, hc, T.clC, T.Clast, cF_last, a, A.O, dx2, _, _, rfl, ha, T.clO, T.Ovalue, oF_value, (by show 2 ≤ sizeLine; decide), fun q hq => k _ q hq upd_same (.new hq)⟩
theorem scCH : FnScope ["self", "answer", "heard"] ["self", "answer"] (defScope sCH) := fnsc
theorem ok_ch {f : Addr} {fd : FuncData} (F : Fun K "qc_heard" "Client.qc_heard" sCH f fd) (T : Txt K mg A) (gR : GDef P w K mg base "right_message" 4 ["row"] (spRight K A.M)) (mA : MDef P w K mg base A.C "awaits" 3 ["self", "heard"] (spCA A.C A.O A.M))
    (mK : MDef P w K mg base A.O "keep" 1 ["self", "answer"] (spOK A.O A.M)) (mM : MDef P w K mg base A.O "go_on_from_most" 2 ["self"] (spOM A.O)) : FnOk P w K mg base CX0 5 f fd ["self", "answer"] (spCH K A.C A.O) := by
  refine F.ok scCH (fun vs H Q E h => ?_) (fun cdv A' outer s H vs Q E hr h => ?_)
  · obtain ⟨c, q, p, fp, l, rfl, _⟩ := h
    rfl
  · obtain ⟨c, q, p, fp, l, rfl, hC, few, hS, hl, hb, k⟩ := h
    have hr1 : Room 1 _ := hr.mono (by decide)
    have hr2 : Room 2 _ := hr.mono (by decide)
    have hr3 : Room 3 _ := hr.mono (by decide)
    refine ⟨_, pss_cons (ps_set (i := 2) scCH.nd rfl (Or.inl rfl) (pe_g gR hr (pa_cons (pv 1) pa_nil)))
      (pss_cons (ps_if (pt_cmpR op_isN (pv 2) pe_non (nomark _)) (pss_one (ps_ret (pe_cst T.WRONG))) pss_nil)
      (pss_cons (ps_if (pt_not (pt_val (pe_m (pv 0) T.clC mA hr3 (pa_cons (pv 2) pa_nil)))) (pss_one (ps_ret pe_int)) pss_nil)
      (pss_cons (ps_expr (pe_m (pe_fld (pv 0) rfl) T.clO mK hr1 (pa_cons (pv 2) pa_nil)))
      (pss_cons (ps_if (pt_cmpR op_gt (pe_op op_mul pe_int (pe_callB call_len_seq (by rfl) T.len PySem.boot_len (pa_cons (pe_fld (pe_fld (pv 0) rfl) rfl) pa_nil))) (pe_fld (pv 0) rfl) (nomark _)) (pss_one (ps_expr (pe_m0 (pe_fld (pv 0) rfl) T.clO mM hr2))) pss_nil)
      (pss_one (ps_ret pe_int)))))), ?_⟩
    unfold PCl.heard at k
    refine ⟨_, rfl, q, l, rfl, hS, hl, hb, fun hN H1 k1 => ?_, fun m hM H1 x mx nx k1 => ?_⟩
    · rw [hN] at k
      refine ⟨_, rfl, rfl, _, rfl, ?_⟩
      exact if_t (decide_eq_true rfl) (k H1 fp (hC.same k1) (fun x h => .inl h) (k1.mono (by simp)))
    rw [hM] at k
    dsimp only at k
    refine ⟨_, rfl, rfl, _, rfl, ?_⟩
    refine if_f (decide_eq_false fun z => nomatch z) ?_
    have hC1 := hC.same k1
    obtain ⟨dx, v, hc, h2⟩ := id hC1
    refine ⟨_, rfl, c, dx, _, rfl, hc, cF_no, _, rfl, c, x, p, fp, m, rfl, hC1, mx, _, rfl, ?_⟩
    cases e : p.last with
    | none =>
      rw [e] at k
      have aw : p.awaits m = false := by unfold PCl.awaits; rw [e]
      rw [aw]
      exact if_t rfl (k H1 fp hC1 (fun x h => .inl h) (k1.mono (by simp)))
    | some o =>
      rw [e] at h2 k
      dsimp only at k
      obtain ⟨a, la, rfl, rfl, hO⟩ := h2
      obtain ⟨dx2, t, ha, hla, ht⟩ := id hO
      by_cases aw : p.awaits m = true
      rotate_left
      · rw [if_neg aw] at k
        exact if_t (by rw [Bool.eq_false_iff.mpr aw] <;> rfl) (k H1 _ hC1 (fun x h => .inl h) (k1.mono (by simp)))
      rw [if_pos aw] at k
      refine if_f (by rw [aw] <;> rfl) ?_
      have nca : c ≠ a := co_ne hc ha
      have ncl : c ≠ la := ne_of hc hla (fun q => nomatch q)
      refine ⟨_, rfl, c, A.C, dx, _, _, rfl, hc, T.clC, T.Clast, cF_last, a, dx2, _, rfl, ha, oF_no, _, rfl, a, x, la, o, m, rfl, hO, mx, few o e, fun H2 hO2 k2 => ?_⟩
      have hc2 := k2 _ _ hc (fun z => by simp only [List.mem_cons, List.not_mem_nil, or_false] at z; rcases z with z | z; exact absurd z nca; exact absurd z ncl)
      obtain ⟨dx3, t3, ha2, hla2, ht2⟩ := id hO2
      refine ⟨_, rfl, c, A.C, dx, _, _, rfl, hc2, T.clC, T.Clast, cF_last, a, A.O, dx3, _, _, rfl, ha2, T.clO, T.Oanswered, oF_answered, la, _, rfl, .inl (SqL.of hla2), _, _, rfl, rfl, .inl ⟨by decide, by decide⟩,
        _, rfl, c, A.C, dx, _, _, rfl, hc2, T.clC, T.Ckeepers, cF_keepers, _, _, rfl, rfl, _, rfl, ?_⟩
      have k12 : Keep [c, a, la] H H2 := (k1.mono (fp' := [c, a, la]) (by simp)).trans1 (k2.mono (fun x h => .inl (by simp at h ⊢; exact .inr h)))
      have ec : decide ((p.keepers : Int) < 2 * ((nv (o.keep m).answered).length : Int)) = decide (p.keepers < 2 * (o.keep m).answered.length) := by
        rw [nv_length]
        by_cases z : p.keepers < 2 * (o.keep m).answered.length
        · rw [decide_eq_true z, decide_eq_true (by omega)]
        · rw [decide_eq_false z, decide_eq_false (by omega)]
      show if decide ((p.keepers : Int) < 2 * ((nv (o.keep m).answered).length : Int)) = true then _ else _
      rw [ec]
      unfold PCl.takes at k
      by_cases d : p.keepers < 2 * (o.keep m).answered.length
      · rw [if_pos d] at k
        refine if_t (decide_eq_true d) ?_
        refine ⟨_, rfl, c, A.C, dx, _, _, rfl, hc2, T.clC, T.Clast, cF_last, a, dx3, _, rfl, ha2, oF_no, a, la, o.keep m, rfl, hO2, fun H3 l3 hO3 n3 k3 => ?_⟩
        have hc3 := k3 _ _ hc2 (fun z => by rw [List.mem_singleton] at z; exact absurd z nca)
        refine k H3 [c, a, l3] ⟨dx, .ref a, hc3, a, l3, rfl, rfl, hO3⟩ ?_ (k12.trans1 (k3.mono (fun x h => .inl (by simp at h ⊢; exact .inr (.inl h)))))
        intro y hy
        simp only [List.mem_cons, List.not_mem_nil, or_false] at hy
        rcases hy with rfl | rfl | rfl
        · exact .inl (by simp)
        · exact .inl (by simp)
        · refine .inr ?_
          cases z : H y with
          | none => rfl
          | some u =>
            by_cases z2 : ∃ xs, u = .tup xs
            · have := k12 y u z fun _ => z2
              rw [n3] at this
              cases this
            · by_cases z3 : y ∈ [c, a, la]
              · simp only [List.mem_cons, List.not_mem_nil, or_false] at z3
                rcases z3 with rfl | rfl | rfl
                · rw [hc2] at n3; cases n3
                · rw [ha2] at n3; cases n3
                · rw [hla2] at n3; cases n3
              · have := k12 y u z fun h => absurd h z3
                rw [n3] at this
                cases this
      · rw [if_neg d] at k
        refine if_f (decide_eq_false d) ?_
        exact k H2 [c, a, la] ⟨dx, .ref a, hc2, a, la, rfl, rfl, hO2⟩ (fun x h => .inl h) k12

/-! ### the reader -/
theorem rF_new (a : Addr) : putF "at" (.int 0) (putF "calls" (.ref a) []) = rF a 0 := by
  rw [put_nil, put_past (by decide +kernel) put_nil]
  rfl
theorem rF_put (a : Addr) (i j : Nat) : putF "at" (.int j) (rF a i) = rF a j := by
  unfold rF
  rw [put_past (by decide +kernel) put_here]
theorem scRI : FnScope ["self", "calls"] ["self", "calls"] (defScope sRI) := fnsc
theorem ok_ri {f : Addr} {fd : FuncData} (F : Fun K "__init__" "Reader.__init__" sRI f fd) (T : Txt K mg A) : FnOk P w K mg base CX0 1 f fd ["self", "calls"] (spRI A.R) := by
  refine F.ok scRI (fun vs H Q E h => ?_) (fun cdv A' outer s H vs Q E hr h => ?_)
  · obtain ⟨p, dx, a, rfl, _⟩ := h
    rfl
  · obtain ⟨p, dx, a, rfl, hp, k⟩ := h
    refine ⟨_, pss_cons (ps_fld (pv 0) (pv 1) rfl) (pss_one (ps_fld (pv 0) pe_int rfl)), ?_⟩
    refine ⟨_, rfl, _, rfl, p, A.R, dx, [], rfl, hp, T.clR, T.Rcalls, by decide, ?_⟩
    refine ⟨_, rfl, p, A.R, dx, _, rfl, upd_same, T.clR, T.Rat, fw (by decide), ?_⟩
    rw [rF_new, upd_upd]
    exact k _ ⟨dx, upd_same⟩ (.ins hp (by simp))
theorem scRM : FnScope ["self"] ["self"] (defScope sRM) := fnsc
theorem ok_rm {f : Addr} {fd : FuncData} (F : Fun K "has_more" "Reader.has_more" sRM f fd) (T : Txt K mg A) : FnOk P w K mg base CX0 1 f fd ["self"] (spRM K A.R) := by
  refine F.ok scRM (fun vs H Q E h => ?_) (fun cdv A' outer s H vs Q E hr h => ?_)
  · obtain ⟨r, a, i, ns, rfl, _⟩ := h
    rfl
  · obtain ⟨r, a, i, ns, rfl, ⟨dx, h1⟩, hS, k⟩ := h
    refine ⟨_, pss_one (ps_ret (pe_cmpR op_lt (pe_fld (pv 0) rfl) (pe_callB call_len_seq (by rfl) T.len PySem.boot_len (pa_cons (pe_fld (pv 0) rfl) pa_nil)) (nomark _))), ?_⟩
    refine ⟨_, rfl, r, A.R, dx, _, _, rfl, h1, T.clR, T.Rat, rF_at, _, rfl, r, A.R, dx, _, _, rfl, h1, T.clR, T.Rcalls, rF_calls, a, _, rfl, .inl hS, _, _, rfl, rfl, ?_⟩
    show Q (.bl (decide ((i : Int) < ((iv ns).length : Int)))) H
    rw [iv_length]
    have e : decide ((i : Int) < (ns.length : Int)) = decide (i < ns.length) := by simp
    rw [e]
    exact k
theorem scRN : FnScope ["self", "taken"] ["self"] (defScope sRN) := fnsc
theorem ok_rn {f : Addr} {fd : FuncData} (F : Fun K "take_number" "Reader.take_number" sRN f fd) (T : Txt K mg A) : FnOk P w K mg base CX0 1 f fd ["self"] (spRN K A.R) := by
  refine F.ok scRN (fun vs H Q E h => ?_) (fun cdv A' outer s H vs Q E hr h => ?_)
  · obtain ⟨r, a, i, ns, z, rfl, _⟩ := h
    rfl
  · obtain ⟨r, a, i, ns, z, rfl, ⟨dx, h1⟩, hS, hz, k⟩ := h
    refine ⟨_, pss_cons (ps_set (i := 1) scRN.nd rfl (Or.inl rfl) (pe_ix ix_list (pe_fld (pv 0) rfl) (pe_fld (pv 0) rfl) (fun _ _ => rfl)))
      (pss_cons (ps_fldaug (pv 0) pe_int in_add) (pss_one (ps_ret (pv 1)))), ?_⟩
    refine ⟨_, rfl, r, A.R, dx, _, _, rfl, h1, T.clR, T.Rcalls, rF_calls, _, rfl, r, A.R, dx, _, _, rfl, h1, T.clR, T.Rat, rF_at, a, _, _, _, rfl, rfl, hS, atI_nat (iv_at hz), ?_⟩
    refine ⟨_, rfl, r, A.R, dx, _, _, rfl, h1, T.clR, T.Rat, rF_at, _, _, rfl, rfl, dx, _, h1, (by show 2 < 1000; decide), ?_⟩
    rw [show (V.int ((i : Int) + 1)) = V.int ((i + 1 : Nat) : Int) from rfl, rF_put]
    exact ⟨_, rfl, k _ ⟨dx, upd_same⟩ (.ins h1 (by simp))⟩
theorem scRR : FnScope ["self", "length", "begin"] ["self"] (defScope sRR) := fnsc
theorem ok_rr {f : Addr} {fd : FuncData} (F : Fun K "take_row" "Reader.take_row" sRR f fd) (T : Txt K mg A) (mN : MDef P w K mg base A.R "take_number" 1 ["self"] (spRN K A.R)) : FnOk P w K mg base CX0 2 f fd ["self"] (spRR K A.R) := by
  refine F.ok scRR (fun vs H Q E h => ?_) (fun cdv A' outer s H vs Q E hr h => ?_)
  · obtain ⟨r, a, i, n, ns, rfl, _⟩ := h
    rfl
  · obtain ⟨r, a, i, n, ns, rfl, hR, hS, hz, k⟩ := h
    refine ⟨_, pss_cons (ps_set (i := 1) scRR.nd rfl (Or.inl rfl) (pe_m0 (pv 0) T.clR mN hr))
      (pss_cons (ps_set (i := 2) scRR.nd rfl (Or.inl rfl) (pe_fld (pv 0) rfl))
      (pss_cons (ps_fldaug (pv 0) (pv 1) in_add)
      (pss_one (ps_ret (pe_slice sl_list (pe_fld (pv 0) rfl) (po_some (pv 2)) (po_some (pe_fld (pv 0) rfl)))))))
      , ?_⟩
    obtain ⟨dx, h1⟩ := id hR
    refine ⟨_, rfl, r, dx, _, rfl, h1, rF_no, r, a, i, ns, _, rfl, hR, hS, hz, fun H1 ⟨dx1, h2⟩ k1 => ?_⟩
    have hS1 := sql_ins hS h1 k1
    refine ⟨_, rfl, r, A.R, dx1, _, _, rfl, h2, T.clR, T.Rat, rF_at, ?_⟩
    refine ⟨_, rfl, r, A.R, dx1, _, _, rfl, h2, T.clR, T.Rat, rF_at, _, rfl, _, _, rfl, rfl, dx1, _, h2, (by show 2 < 1000; decide), ?_⟩
    rw [show (V.int (((i + 1 : Nat) : Int) + (n : Int))) = V.int ((i + 1 + n : Nat) : Int) from rfl, rF_put]
    have k2 : Keep [r] H1 (upd H1 r (.ins A.R dx1 (rF a (i + 1 + n)))) := .ins h2 (by simp)
    have hS2 := sql_ins hS1 h2 k2
    refine ⟨_, rfl, r, A.R, dx1, _, _, rfl, upd_same, T.clR, T.Rcalls, rF_calls, _, rfl, _, rfl, _, rfl, r, A.R, dx1, _, _, rfl, upd_same, T.clR, T.Rat, rF_at, _, rfl, a, _, rfl, hS2, fun p hp => ?_⟩
    have nrp : r ≠ p := ne_of_none upd_same hp
    have k3 : Keep [r] H (upd H1 r (.ins A.R dx1 (rF a (i + 1 + n)))) := k1.trans1 k2
    refine k _ p ⟨dx1, by rw [upd_ne nrp]; exact upd_same⟩ (k3.free hp (by simp; exact nrp.symm)) ?_ (k3.trans1 (.new hp))
    rw [upd_same, cut_row ns i n (List.getElem?_eq_some_iff.mp hz).1]
end
end Pf

/-! One call: call_keeper, call_client. -/
namespace Pf
open PySem PySem.Spec PyProof.Rows L2
open Km356 (Held Message nothing le num crc messageOf later kDoes)
open Mr (POp PCl allB)
open PySem.W (Frag)
/-- behind a call's number and object: what the call is, what is left -/
inductive Arg : Int → Km356.Call → List Int → List Int → Prop
  | kStart {me : Nat} {t : List Int} : Arg 0 (.kStart me) ((me : Int) :: t) t
  | kHeard {l : List Nat} {t : List Int} (hl : l.length = 24) (hb : allB l) : Arg 1 (.kHeard l) (24 :: (Mr.nums l ++ t)) t
  | cStart {me n : Nat} {t : List Int} : Arg 2 (.cStart me n) ((me : Int) :: (n : Int) :: t) t
  | cRead {t : List Int} : Arg 3 .cRead t t
  | cWrite {v : Nat} {t : List Int} : Arg 4 (.cWrite v) ((v : Int) :: t) t
  | cSay {t : List Int} : Arg 5 .cSay t t
  | cHeard {l : List Nat} {t : List Int} (hl : l.length = 24) (hb : allB l) : Arg 6 (.cHeard l) (24 :: (Mr.nums l ++ t)) t
  | cDone {t : List Int} : Arg 7 .cDone t t
theorem arg_of {r : List Int} {k : Nat} {x : Km356.Call} {t : List Int} (h : Mr.Nxt r k x t) : ∃ p s, r = p :: (k : Int) :: s ∧ Arg p x s t ∧ ((Km356.whose x = 0 ∧ k < 4 ∧ inV (.int p) [.int 0, .int 1] = true) ∨ (Km356.whose x = 1 ∧ k < 2 ∧ inV (.int p) [.int 0, .int 1] = false)) := by
  cases h with
  | kStart hk => exact ⟨_, _, rfl, .kStart, .inl ⟨rfl, hk, rfl⟩⟩
  | kHeard hk hl hb => exact ⟨_, _, rfl, .kHeard hl hb, .inl ⟨rfl, hk, rfl⟩⟩
  | cStart hk => exact ⟨_, _, rfl, .cStart, .inr ⟨rfl, hk, rfl⟩⟩
  | cRead hk => exact ⟨_, _, rfl, .cRead, .inr ⟨rfl, hk, rfl⟩⟩
  | cWrite hk => exact ⟨_, _, rfl, .cWrite, .inr ⟨rfl, hk, rfl⟩⟩
  | cSay hk => exact ⟨_, _, rfl, .cSay, .inr ⟨rfl, hk, rfl⟩⟩
  | cHeard hk hl hb => exact ⟨_, _, rfl, .cHeard hl hb, .inr ⟨rfl, hk, rfl⟩⟩
  | cDone hk => exact ⟨_, _, rfl, .cDone, .inr ⟨rfl, hk, rfl⟩⟩
theorem drop_cons {ns t : List Int} {i : Nat} {z : Int} (h : ns.drop i = z :: t) : ns[i]? = some z ∧ ns.drop (i + 1) = t := by
  constructor
  · have := congrArg (fun l => l[0]?) h
    simpa [List.getElem?_drop] using this
  · rw [← List.drop_drop, h]
    rfl
theorem drop_row {ns t : List Int} {i : Nat} {l : List Nat} (hl : l.length = 24) (h : ns.drop i = 24 :: (Mr.nums l ++ t)) : ns[i]? = some ((24 : Nat) : Int) ∧ (ns.drop (i + 1)).take 24 = Mr.nums l ∧ ns.drop (i + 1 + 24) = t := by
  obtain ⟨h1, h2⟩ := drop_cons h
  have hn : (Mr.nums l).length = 24 := by rw [Mr.nums_length, hl]
  refine ⟨h1, ?_, ?_⟩
  · rw [h2, List.take_left' hn]
  · rw [← List.drop_drop, h2, List.drop_left' hn]
theorem neI {a b : Int} (h : a ≠ b) : decide (V.int a = V.int b) = false := decide_eq_false fun z => h (by injection z)
def spCK (K : Frag) (A : Ad) : Sp := fun vs H Q _ => ∃ (kp r a : Addr) (i : Nat) (k : Kpr) (p : Int) (x : Km356.Call) (t ns : List Int), vs = [.ref kp, .int p, .ref r] ∧ KAt A.K H kp k ∧ RAt A.R H r a i ∧ SqL K H a (iv ns) ∧ Arg p x (ns.drop i) t ∧ Km356.whose x = 0 ∧
  ∀ (H' : Hp) (q : Addr) (j : Nat), KAt A.K H' kp (kDoes k x).1 → RAt A.R H' r a j → ns.drop j = t → H q = none → H' q = some (.lst (iv (Mr.told (kDoes k x).2))) → Keep [kp, r] H H' → Q (.ref q) H'
def spCC (K : Frag) (A : Ad) : Sp := fun vs H Q _ => ∃ (c r a : Addr) (i : Nat) (pc : PCl) (fp : List Addr) (p : Int) (x : Km356.Call) (t ns : List Int), vs = [.ref c, .int p, .ref r] ∧ CAt A.C A.O H c pc fp ∧ Few pc ∧ RAt A.R H r a i ∧ SqL K H a (iv ns) ∧ Arg p x (ns.drop i) t ∧ Km356.whose x = 1 ∧
  ∀ (H' : Hp) (q : Addr) (j : Nat) (fp' : List Addr), CAt A.C A.O H' c (pc.does x).1 fp' → New fp fp' H → RAt A.R H' r a j → ns.drop j = t → (q ∈ r :: fp ∨ H q = none) → H' q = some (.lst (iv (pc.does x).2)) → Keep (r :: fp) H H' → Q (.ref q) H'
/-- instances of unlike classes are told by how many fields they have -/
theorem ins_len {H : Hp} {x C C' dx dx' : Addr} {fs gs : List (Str × V)} (h1 : H x = some (.ins C dx fs)) (h2 : H x = some (.ins C' dx' gs)) : fs.length = gs.length := by
  rw [h1] at h2
  injection h2 with h2
  injection h2 with _ _ h2
  rw [h2]
theorem kr_ne {H : Hp} {CK CR kp r a : Addr} {k : Kpr} {i : Nat} (h1 : KAt CK H kp k) (h2 : RAt CR H r a i) : kp ≠ r := by
  rintro rfl
  obtain ⟨_, _, h1, _⟩ := h1
  obtain ⟨_, h2⟩ := h2
  exact absurd (ins_len h1 h2) (by show ¬ 3 = 2; decide)
theorem c_ins {H : Hp} {CC CO c x C dx : Addr} {p : PCl} {fp : List Addr} {fs : List (Str × V)} (h : CAt CC CO H c p fp) (e : H x = some (.ins C dx fs)) (hx : x ∈ fp) : fs.length = 4 ∨ fs.length = 7 := by
  rcases h.kinds hx with ⟨_, _, _, z⟩ | ⟨_, _, _, _, _, z⟩ | ⟨_, z⟩
  · exact .inl (ins_len e z)
  · exact .inr (ins_len e z)
  · rw [e] at z; cases z
theorem c_some {H : Hp} {CC CO c x : Addr} {p : PCl} {fp : List Addr} (h : CAt CC CO H c p fp) (hx : x ∈ fp) : H x ≠ none := by
  rcases h.kinds hx with ⟨_, _, _, z⟩ | ⟨_, _, _, _, _, z⟩ | ⟨_, z⟩ <;> (rw [z]; simp)
theorem c_r {H : Hp} {CC CO CR c r a : Addr} {p : PCl} {fp : List Addr} {i : Nat} (h : CAt CC CO H c p fp) (hr : RAt CR H r a i) : r ∉ fp := fun hx => by
  obtain ⟨_, e⟩ := hr
  have := c_ins h e hx
  exact absurd this (by show ¬ (2 = 4 ∨ 2 = 7); decide)
theorem c_k {H : Hp} {CC CO CK c kp : Addr} {p : PCl} {fp : List Addr} {k : Kpr} (h : CAt CC CO H c p fp) (hr : KAt CK H kp k) : kp ∉ fp := fun hx => by
  obtain ⟨_, _, e, _⟩ := hr
  have := c_ins h e hx
  exact absurd this (by show ¬ (3 = 4 ∨ 3 = 7); decide)
section
variable {P : Program} {w : World} {K : Frag} {mg : Str → Option Value} {base : Heap} {A : Ad}
theorem scCK : FnScope ["keeper", "number", "reader"] ["keeper", "number", "reader"] (defScope sCallK) := fnsc
theorem ok_ck {f : Addr} {fd : FuncData} (F : Fun K "call_keeper" "call_keeper" sCallK f fd) (T : Txt K mg A) (mS : MDef P w K mg base A.K "qk_start" 1 ["self", "me"] (spKS A.K)) (mH : MDef P w K mg base A.K "qk_heard" 5 ["self", "question"] (spKH K A.K))
    (mN : MDef P w K mg base A.R "take_number" 1 ["self"] (spRN K A.R)) (mR : MDef P w K mg base A.R "take_row" 2 ["self"] (spRR K A.R)) : FnOk P w K mg base CX0 6 f fd ["keeper", "number", "reader"] (spCK K A) := by
  refine F.ok scCK (fun vs H Q E h => ?_) (fun cdv A' outer s H vs Q E hr h => ?_)
  · obtain ⟨kp, r, a, i, k, p, x, t, ns, rfl, _⟩ := h
    rfl
  · obtain ⟨kp, r, a, i, k, p, x, t, ns, rfl, hK, hR, hS, hA, hw, kq⟩ := h
    have hr1 : Room 1 _ := hr.mono (by decide)
    have hr2 : Room 2 _ := hr.mono (by decide)
    refine ⟨_, pss_cons (ps_if (pt_cmpR op_eq (pv 1) (pe_cst T.QK_START) (nomark _)) (pss_one (ps_ret (pe_lst (pa_cons (pe_m (pv 0) T.clK mS hr1 (pa_cons (pe_m0 (pv 2) T.clR mN hr1) pa_nil)) pa_nil)))) pss_nil)
      (pss_one (ps_ret (pe_m (pv 0) T.clK mH hr (pa_cons (pe_m0 (pv 2) T.clR mR hr2) pa_nil)))), ?_⟩
    obtain ⟨dk, tk, hk, htk⟩ := id hK
    obtain ⟨dr, h1⟩ := id hR
    have nkr := kr_ne hK hR
    refine ⟨_, rfl, rfl, _, rfl, ?_⟩
    generalize ed : ns.drop i = d at hA
    cases hA with
    | @kStart me _ =>
      obtain ⟨hz, ht⟩ := drop_cons ed
      refine if_t (decide_eq_true rfl) ?_
      refine ⟨_, rfl, kp, dk, _, rfl, hk, kF_no, _, rfl, r, dr, _, rfl, h1, rF_no, r, a, i, ns, _, rfl, hR, hS, hz, fun H1 hR1 k1 => ?_⟩
      refine ⟨kp, k, me, rfl, hK.keep k1 (by simp; exact nkr), fun H2 hK2 k2 => ?_⟩
      refine ⟨(by show 1 ≤ sizeLine; decide), fun q hq => ?_⟩
      have k12 : Keep [kp, r] H H2 := (k1.mono (fp' := [kp, r]) (by simp)).trans1 (k2.mono (by simp))
      have hR2 := hR1.keep k2 (by simp; exact nkr.symm)
      have nq : q ∉ [kp, r] := by
        obtain ⟨_, _, z, _⟩ := hK2
        obtain ⟨_, z2⟩ := hR2
        simp only [List.mem_cons, List.not_mem_nil, or_false, not_or]
        exact ⟨(ne_of_none z hq).symm, (ne_of_none z2 hq).symm⟩
      refine kq _ q (i + 1) (hK2.same (.new hq)) (hR2.keep (.new (fp := []) hq) (by simp)) ht (k12.free hq nq) ?_ (k12.trans1 (.new hq))
      rw [upd_same]
      have : Mr.told (kDoes k (.kStart me)).2 = [(kDoes k (.kStart me)).2.value] := by
        rcases Mr.kstart_eq k me with e | e <;> rw [e] <;> rfl
      rw [this] <;> rfl
    | @kHeard l _ hl hb =>
      obtain ⟨hz, hrow, ht⟩ := drop_row hl ed
      refine if_f (neI (by decide)) ?_
      refine ⟨_, rfl, kp, dk, _, rfl, hk, kF_no, _, rfl, r, dr, _, rfl, h1, rF_no, r, a, i, 24, ns, rfl, hR, hS, hz, fun H1 p1 hR1 n1 v1 k1 => ?_⟩
      rw [hrow, iv_nums] at v1
      refine ⟨kp, p1, k, l, rfl, hK.keep k1 (by simp; exact nkr), SqL.of v1, hl, hb, fun H2 q hK2 nq hq k2 => ?_⟩
      have hR2 := hR1.keep k2 (by simp; exact nkr.symm)
      have k12 : Keep [kp, r] H H2 := (k1.mono (fp' := [kp, r]) (by simp)).trans1 (k2.mono (by simp))
      have nqr : q ∉ [r] := by
        obtain ⟨_, z2⟩ := hR1
        simp only [List.mem_singleton]
        exact (ne_of_none z2 nq).symm
      exact kq _ q (i + 1 + 24) hK2 hR2 ht (k1.free nq nqr) hq k12
    | cStart => cases hw
    | cRead => cases hw
    | cWrite => cases hw
    | cSay => cases hw
    | cHeard => cases hw
    | cDone => cases hw
theorem scCC : FnScope ["client", "number", "reader", "me", "keepers"] ["client", "number", "reader"] (defScope sCallC) := fnsc
theorem ok_cc {f : Addr} {fd : FuncData} (F : Fun K "call_client" "call_client" sCallC f fd) (T : Txt K mg A) (mS : MDef P w K mg base A.C "qc_start" 1 ["self", "me", "keepers"] (spCS A.C A.O)) (mRd : MDef P w K mg base A.C "qc_read" 5 ["self"] (spCR A.C A.O)) (mWr : MDef P w K mg base A.C "qc_write" 5 ["self", "value"] (spCW A.C A.O))
    (mY : MDef P w K mg base A.C "qc_say" 5 ["self"] (spCY A.C A.O)) (mH : MDef P w K mg base A.C "qc_heard" 5 ["self", "answer"] (spCH K A.C A.O)) (mD : MDef P w K mg base A.C "qc_done" 2 ["self"] (spCD A.C A.O))
    (mN : MDef P w K mg base A.R "take_number" 1 ["self"] (spRN K A.R)) (mR : MDef P w K mg base A.R "take_row" 2 ["self"] (spRR K A.R)) : FnOk P w K mg base CX0 6 f fd ["client", "number", "reader"] (spCC K A) := by
  refine F.ok scCC (fun vs H Q E h => ?_) (fun cdv A' outer s H vs Q E hr h => ?_)
  · obtain ⟨c, r, a, i, pc, fp, p, x, t, ns, rfl, _⟩ := h
    rfl
  · obtain ⟨c, r, a, i, pc, fp, p, x, t, ns, rfl, hC, few, hR, hS, hA, hw, kq⟩ := h
    have hr1 : Room 1 _ := hr.mono (by decide)
    have hr2 : Room 2 _ := hr.mono (by decide)
    refine ⟨_, pss_cons (ps_if (pt_cmpR op_eq (pv 1) (pe_cst T.QC_START) (nomark _)) (pss_cons (ps_set (i := 3) scCC.nd rfl (Or.inl rfl) (pe_m0 (pv 2) T.clR mN hr1)) (pss_cons (ps_set (i := 4) scCC.nd rfl (Or.inl rfl) (pe_m0 (pv 2) T.clR mN hr1))
        (pss_one (ps_ret (pe_lst (pa_cons (pe_m (pv 0) T.clC mS hr1 (pa_cons (pv 3) (pa_cons (pv 4) pa_nil))) pa_nil)))))) pss_nil)
      (pss_cons (ps_if (pt_cmpR op_eq (pv 1) (pe_cst T.QC_READ) (nomark _)) (pss_one (ps_ret (pe_lst (pa_cons (pe_m0 (pv 0) T.clC mRd hr) pa_nil)))) pss_nil)
      (pss_cons (ps_if (pt_cmpR op_eq (pv 1) (pe_cst T.QC_WRITE) (nomark _)) (pss_one (ps_ret (pe_lst (pa_cons (pe_m (pv 0) T.clC mWr hr (pa_cons (pe_m0 (pv 2) T.clR mN hr1) pa_nil)) pa_nil)))) pss_nil)
      (pss_cons (ps_if (pt_cmpR op_eq (pv 1) (pe_cst T.QC_SAY) (nomark _)) (pss_one (ps_ret (pe_m0 (pv 0) T.clC mY hr))) pss_nil)
      (pss_cons (ps_if (pt_cmpR op_eq (pv 1) (pe_cst T.QC_HEARD) (nomark _)) (pss_one (ps_ret (pe_lst (pa_cons (pe_m (pv 0) T.clC mH hr (pa_cons (pe_m0 (pv 2) T.clR mR hr2) pa_nil)) pa_nil)))) pss_nil)
      (pss_cons (ps_if (pt_cmpR op_eq (pv 1) (pe_cst T.QC_DONE) (nomark _)) (pss_one (ps_ret (pe_m0 (pv 0) T.clC mD hr2))) pss_nil)
      (pss_one ps_never)))))), ?_⟩
    obtain ⟨dx, v, hc, _⟩ := id hC
    obtain ⟨dr, h1⟩ := id hR
    have nr := c_r hC hR
    have nr' : ∀ y ∈ fp, y ∉ [r] := fun y hy z => by rw [List.mem_singleton] at z; rw [z] at hy; exact nr hy
    -- the end of a call that is answered by one number
    have one : ∀ (H1 H2 : Hp) (y : PCl × Int) (fp' : List Addr) (j : Nat), Keep [r] H H1 → RAt A.R H1 r a j → CAt A.C A.O H1 c pc fp → ns.drop j = t → CAt A.C A.O H2 c y.1 fp' → New fp fp' H1 → Keep fp H1 H2 → pc.does x = (y.1, [y.2]) → 1 ≤ sizeLine ∧ ∀ q, H2 q = none → Q (.ref q) (upd H2 q (.lst [.int y.2])) := by
      intro H1 H2 y fp' j k1 hR1 hC1 ht hC2 nw k2 e
      refine ⟨(by show 1 ≤ sizeLine; decide), fun q hq => ?_⟩
      rw [e] at kq
      have hR2 := hR1.keep k2 nr
      have k12 : Keep (r :: fp) H H2 := (k1.mono (fp' := r :: fp) (by simp)).trans1 (k2.mono (fun z h => .inl (List.mem_cons_of_mem _ h)))
      have nw0 : New fp fp' H := fun z hz => by
        rcases nw z hz with h | h
        · exact .inl h
        · by_cases g : z ∈ [r]
          · rw [List.mem_singleton] at g
            obtain ⟨_, u⟩ := hR1
            rw [g, u] at h
            cases h
          · exact .inr (k1.free h g)
      have nq : q ∈ r :: fp ∨ H q = none := by
        by_cases g : q ∈ r :: fp
        · exact .inl g
        · exact .inr (k12.free hq g)
      exact kq _ q j fp' (hC2.same (.new hq)) nw0 (hR2.keep (.new (fp := []) hq) (by simp)) ht nq (by rw [upd_same] <;> rfl) (k12.trans1 (.new hq))
    refine ⟨_, rfl, rfl, _, rfl, ?_⟩
    generalize ed : ns.drop i = d at hA
    cases hA with
    | kStart => cases hw
    | kHeard => cases hw
    | @cStart me n _ =>
      obtain ⟨hz, ht0⟩ := drop_cons ed
      obtain ⟨hz2, ht⟩ := drop_cons ht0
      refine if_t (decide_eq_true rfl) ?_
      refine ⟨_, rfl, r, dr, _, rfl, h1, rF_no, r, a, i, ns, _, rfl, hR, hS, hz, fun H1 hR1 k1 => ?_⟩
      obtain ⟨dr1, h2⟩ := id hR1
      have hS1 := sql_ins hS h1 k1
      refine ⟨_, rfl, r, dr1, _, rfl, h2, rF_no, r, a, i + 1, ns, _, rfl, hR1, hS1, hz2, fun H2 hR2 k2 => ?_⟩
      have k12 : Keep [r] H H2 := k1.trans1 k2
      have hC2 := hC.keep k12 nr'
      obtain ⟨dx2, v2, hc2, _⟩ := id hC2
      refine ⟨_, rfl, c, dx2, _, rfl, hc2, cF_no, _, rfl, _, rfl, c, pc, fp, me, n, rfl, hC2, fun H3 fp' hC3 nw k3 => ?_⟩
      exact one H2 H3 (pc.starts me n) fp' (i + 1 + 1) k12 hR2 hC2 ht hC3 nw k3 rfl
    | cRead =>
      refine if_f (neI (by decide)) ?_
      refine ⟨_, rfl, rfl, _, rfl, if_t (decide_eq_true rfl) ?_⟩
      refine ⟨_, rfl, c, dx, _, rfl, hc, cF_no, c, pc, fp, rfl, hC, fun H3 fp' hC3 nw k3 => ?_⟩
      exact one H H3 (pc.begins none) fp' i (.refl _ _) hR hC ed hC3 nw k3 rfl
    | @cWrite v _ =>
      obtain ⟨hz, ht⟩ := drop_cons ed
      refine if_f (neI (by decide)) ?_
      refine ⟨_, rfl, rfl, _, rfl, if_f (neI (by decide)) ?_⟩
      refine ⟨_, rfl, rfl, _, rfl, if_t (decide_eq_true rfl) ?_⟩
      refine ⟨_, rfl, c, dx, _, rfl, hc, cF_no, _, rfl, r, dr, _, rfl, h1, rF_no, r, a, i, ns, _, rfl, hR, hS, hz, fun H1 hR1 k1 => ?_⟩
      have hC1 := hC.keep k1 nr'
      refine ⟨c, pc, fp, v, rfl, hC1, fun H3 fp' hC3 nw k3 => ?_⟩
      exact one H1 H3 (pc.begins (some v)) fp' (i + 1) k1 hR1 hC1 ht hC3 nw k3 rfl
    | cSay =>
      refine if_f (neI (by decide)) ?_
      refine ⟨_, rfl, rfl, _, rfl, if_f (neI (by decide)) ?_⟩
      refine ⟨_, rfl, rfl, _, rfl, if_f (neI (by decide)) ?_⟩
      refine ⟨_, rfl, rfl, _, rfl, if_t (decide_eq_true rfl) ?_⟩
      refine ⟨_, rfl, c, dx, _, rfl, hc, cF_no, c, pc, fp, rfl, hC, fun H3 q nq hq k3 => ?_⟩
      exact kq H3 q i fp (hC.same k3) (fun z h => .inl h) (hR.keep k3 (by simp)) ed (.inr nq) hq (k3.mono (by simp))
    | @cHeard l _ hl hb =>
      obtain ⟨hz, hrow, ht⟩ := drop_row hl ed
      refine if_f (neI (by decide)) ?_
      refine ⟨_, rfl, rfl, _, rfl, if_f (neI (by decide)) ?_⟩
      refine ⟨_, rfl, rfl, _, rfl, if_f (neI (by decide)) ?_⟩
      refine ⟨_, rfl, rfl, _, rfl, if_f (neI (by decide)) ?_⟩
      refine ⟨_, rfl, rfl, _, rfl, if_t (decide_eq_true rfl) ?_⟩
      refine ⟨_, rfl, c, dx, _, rfl, hc, cF_no, _, rfl, r, dr, _, rfl, h1, rF_no, r, a, i, 24, ns, rfl, hR, hS, hz, fun H1 p1 hR1 n1 v1 k1 => ?_⟩
      rw [hrow, iv_nums] at v1
      have hC1 := hC.keep k1 nr'
      refine ⟨c, p1, pc, fp, l, rfl, hC1, few, SqL.of v1, hl, hb, fun H3 fp' hC3 nw k3 => ?_⟩
      exact one H1 H3 (pc.heard l) fp' (i + 1 + 24) k1 hR1 hC1 ht hC3 nw k3 rfl
    | cDone =>
      refine if_f (neI (by decide)) ?_
      refine ⟨_, rfl, rfl, _, rfl, if_f (neI (by decide)) ?_⟩
      refine ⟨_, rfl, rfl, _, rfl, if_f (neI (by decide)) ?_⟩
      refine ⟨_, rfl, rfl, _, rfl, if_f (neI (by decide)) ?_⟩
      refine ⟨_, rfl, rfl, _, rfl, if_f (neI (by decide)) ?_⟩
      refine ⟨_, rfl, rfl, _, rfl, if_t (decide_eq_true rfl) ?_⟩
      refine ⟨_, rfl, c, dx, _, rfl, hc, cF_no, c, pc, fp, rfl, hC, fun H3 q nq hq k3 => ?_⟩
      exact kq H3 q i fp (hC.same k3) (fun z h => .inl h) (hR.keep k3 (by simp)) ed (.inr nq) hq (k3.mono (by simp))
end
end Pf

/-! The list of calls: answer_next_call, answers. -/
namespace Pf
open PySem PySem.Spec PyProof.Rows L2
open Km356 (Held Message nothing le num crc messageOf later kDoes)
open Mr (POp PCl allB Wd pstep kNew)
open PySem.W (Frag)
structure WAt (A : Ad) (H : Hp) (lk lc : Addr) (ks cs : List Addr) (fps : List (List Addr)) (w : Wd) : Prop where
  hk : H lk = some (.lst (ks.map V.ref))
  hc : H lc = some (.lst (cs.map V.ref))
  nk : ks.length = 4
  nc : cs.length = 2
  nf : fps.length = 2
  n1 : w.1.length = 4
  n2 : w.2.length = 2
  nd : ks.Nodup
  kat : ∀ (j : Nat) (a : Addr), ks[j]? = some a → KAt A.K H a (w.1.getD j kNew)
  cat : ∀ (j : Nat) (c : Addr) (fp : List Addr), cs[j]? = some c → fps[j]? = some fp → CAt A.C A.O H c (w.2.getD j PCl.fresh) fp
  dis : ∀ (i j : Nat) (f g : List Addr), i ≠ j → fps[i]? = some f → fps[j]? = some g → ∀ x ∈ f, x ∉ g
  out : ∀ f ∈ fps, lk ∉ f ∧ lc ∉ f
def own (ks : List Addr) (fps : List (List Addr)) : List Addr := ks ++ fps.flatten
theorem mem_own_k {ks : List Addr} {fps : List (List Addr)} {x : Addr} (h : x ∈ ks) : x ∈ own ks fps := List.mem_append_left _ h
theorem mem_own_f {ks : List Addr} {fps : List (List Addr)} {f : List Addr} {x : Addr} (h : f ∈ fps) (hx : x ∈ f) : x ∈ own ks fps := List.mem_append_right _ (List.mem_flatten.mpr ⟨f, h, hx⟩)
/-- a heap that leaves all of it -/
theorem WAt.keep {A : Ad} {H H' : Hp} {lk lc : Addr} {ks cs : List Addr} {fps : List (List Addr)} {w : Wd} {fp : List Addr} (W : WAt A H lk lc ks cs fps w) (k : Keep fp H H') (h1 : lk ∉ fp) (h2 : lc ∉ fp) (h3 : ∀ x ∈ own ks fps, x ∉ fp) : WAt A H' lk lc ks cs fps w where
  hk := k _ _ W.hk fun q => absurd q h1
  hc := k _ _ W.hc fun q => absurd q h2
  nk := W.nk
  nc := W.nc
  nf := W.nf
  n1 := W.n1
  n2 := W.n2
  nd := W.nd
  kat := fun j a h => (W.kat j a h).keep k (h3 a (mem_own_k (List.mem_of_getElem? h)))
  cat := fun j c f h g => (W.cat j c f h g).keep k fun x hx => h3 x (mem_own_f (List.mem_of_getElem? g) hx)
  dis := W.dis
  out := W.out
def spNext (K : Frag) (A : Ad) : Sp := fun vs H Q _ => ∃ (r lk lc a : Addr) (i k : Nat) (x : Km356.Call) (t ns : List Int) (ks cs : List Addr) (fps : List (List Addr)) (w : Wd), vs = [.ref r, .ref lk, .ref lc] ∧ WAt A H lk lc ks cs fps w ∧ (∀ j, Few (w.2.getD j PCl.fresh)) ∧ RAt A.R H r a i ∧ SqL K H a (iv ns) ∧ Mr.Nxt (ns.drop i) k x t ∧
  ∀ (H' : Hp) (q : Addr) (j : Nat) (fps' : List (List Addr)), WAt A H' lk lc ks cs fps' (pstep w k x).1 → (∀ y ∈ own ks fps', y ∈ own ks fps ∨ H y = none) → RAt A.R H' r a j → ns.drop j = t → (q ∈ r :: own ks fps ∨ H q = none) → H' q = some (.lst (iv (pstep w k x).2)) → Keep (r :: own ks fps) H H' → Q (.ref q) H'
theorem pstep_k {w : Wd} {k : Nat} {x : Km356.Call} (h : Km356.whose x = 0) : pstep w k x = ((w.1.set k (kDoes (w.1.getD k kNew) x).1, w.2), Mr.told (kDoes (w.1.getD k kNew) x).2) := by unfold pstep; rw [h] <;> rfl
theorem pstep_c {w : Wd} {k : Nat} {x : Km356.Call} (h : Km356.whose x = 1) : pstep w k x = ((w.1, w.2.set k ((w.2.getD k PCl.fresh).does x).1), ((w.2.getD k PCl.fresh).does x).2) := by unfold pstep; rw [h] <;> rfl
section
variable {P : Program} {w : World} {K : Frag} {mg : Str → Option Value} {base : Heap} {A : Ad}
theorem lst_ins_ne {H : Hp} {x y C dx : Addr} {xs : List V} {fs : List (Str × V)} (h1 : H x = some (.lst xs)) (h2 : H y = some (.ins C dx fs)) : x ≠ y := ne_of h1 h2 (fun q => nomatch q)
theorem scNext : FnScope ["reader", "keepers", "clients", "number", "place"] ["reader", "keepers", "clients"] (defScope sNext) := fnsc
theorem ok_next {f : Addr} {fd : FuncData} (F : Fun K "answer_next_call" "answer_next_call" sNext f fd) (T : Txt K mg A) (mN : MDef P w K mg base A.R "take_number" 1 ["self"] (spRN K A.R)) (gK : GDef P w K mg base "call_keeper" 6 ["keeper", "number", "reader"] (spCK K A))
    (gC : GDef P w K mg base "call_client" 6 ["client", "number", "reader"] (spCC K A)) : FnOk P w K mg base CX0 7 f fd ["reader", "keepers", "clients"] (spNext K A) := by
  refine F.ok scNext (fun vs H Q E h => ?_) (fun cdv A' outer s H vs Q E hr h => ?_)
  · obtain ⟨r, lk, lc, a, i, k, x, t, ns, ks, cs, fps, w, rfl, _⟩ := h
    rfl
  · obtain ⟨r, lk, lc, a, i, k, x, t, ns, ks, cs, fps, wd, rfl, W, few, hR, hS, hN, kq⟩ := h
    have hr1 : Room 1 _ := hr.mono (by decide)
    refine ⟨_, pss_cons (ps_set (i := 3) scNext.nd rfl (Or.inl rfl) (pe_m0 (pv 0) T.clR mN hr1)) (pss_cons (ps_set (i := 4) scNext.nd rfl (Or.inl rfl) (pe_m0 (pv 0) T.clR mN hr1))
      (pss_cons (ps_if (pt_cmpR op_in_seq (pv 3) (pe_tup (pa_cons (pe_cst T.QK_START) (pa_cons (pe_cst T.QK_HEARD) pa_nil))) (by rfl)) (pss_one (ps_ret (pe_g gK hr (pa_cons (pe_ix ix_list (pv 1) (pv 4) (fun _ _ => rfl)) (pa_cons (pv 3) (pa_cons (pv 0) pa_nil)))))) pss_nil)
      (pss_one (ps_ret (pe_g gC hr (pa_cons (pe_ix ix_list (pv 2) (pv 4) (fun _ _ => rfl)) (pa_cons (pv 3) (pa_cons (pv 0) pa_nil)))))))), ?_⟩
    obtain ⟨p, s, ed, hA, hw⟩ := arg_of hN
    obtain ⟨hz, hd1⟩ := drop_cons ed
    obtain ⟨hz2, hd2⟩ := drop_cons hd1
    obtain ⟨dr, h1⟩ := id hR
    refine ⟨_, rfl, r, dr, _, rfl, h1, rF_no, r, a, i, ns, _, rfl, hR, hS, hz, fun H1 hR1 k1 => ?_⟩
    obtain ⟨dr1, h2⟩ := id hR1
    have hS1 := sql_ins hS h1 k1
    refine ⟨_, rfl, r, dr1, _, rfl, h2, rF_no, r, a, i + 1, ns, _, rfl, hR1, hS1, hz2, fun H2 hR2 k2 => ?_⟩
    obtain ⟨dr2, h3⟩ := id hR2
    have hS2 := sql_ins hS1 h2 k2
    refine ⟨_, rfl, (by show 2 ≤ sizeLine; decide), fun u hu => ?_⟩
    have k3 : Keep [] H2 (upd H2 u (.tup [.int 0, .int 1])) := .new hu
    refine ⟨u, _, rfl, .inr (SqT.of upd_same), rfl, rfl, _, rfl, ?_⟩
    generalize upd H2 u (.tup [.int 0, .int 1]) = H3 at k3 ⊢
    have hR3 := hR2.keep k3 (by simp)
    have hS3 := sql_same hS2 k3
    have k13 : Keep [r] H H3 := (k1.trans1 k2).trans1 (k3.mono (by simp))
    -- nothing of the keepers and clients is the reader
    have rk : r ∉ ks := fun z => by
      obtain ⟨j, hj⟩ := List.mem_iff_getElem?.mp z
      exact kr_ne (W.kat j r hj) hR rfl
    have rf : ∀ fp ∈ fps, r ∉ fp := fun fp z => by
      obtain ⟨j, hj⟩ := List.mem_iff_getElem?.mp z
      have hj2 : j < cs.length := by
        have := (List.getElem?_eq_some_iff.mp hj).1
        rw [W.nc]; rw [W.nf] at this; exact this
      exact c_r (W.cat j _ fp (List.getElem?_eq_getElem hj2) hj) hR
    have ro : r ∉ own ks fps := fun z => by
      rcases List.mem_append.mp z with z | z
      · exact rk z
      · obtain ⟨fp, h, hx⟩ := List.mem_flatten.mp z
        exact rf fp h hx
    have W3 : WAt A H3 lk lc ks cs fps wd := W.keep k13 (by simp; exact lst_ins_ne W.hk h1) (by simp; exact lst_ins_ne W.hc h1) (fun y hy z => by rw [List.mem_singleton] at z; rw [z] at hy; exact ro hy)
    rw [← hd2] at hA
    show if inV (.int p) [.int 0, .int 1] = true then _ else _
    rcases hw with ⟨hw, hk4, hi⟩ | ⟨hw, hk2, hi⟩
    · -- a keeper
      refine if_t hi ?_
      obtain ⟨kp, hkp⟩ : ∃ kp, ks[k]? = some kp := ⟨_, List.getElem?_eq_getElem (by rw [W.nk]; exact hk4)⟩
      have hK3 := W3.kat k kp hkp
      refine ⟨_, rfl, _, rfl, lk, _, _, _, rfl, rfl, SqL.of W3.hk, atI_nat (v := .ref kp) (by rw [List.getElem?_map, hkp] <;> rfl), _, rfl, _, rfl, ?_⟩
      refine ⟨kp, r, a, i + 1 + 1, _, p, x, t, ns, rfl, hK3, hR3, hS3, hA, hw, fun H' q j hK' hR' hj nq hq k' => ?_⟩
      rw [pstep_k hw] at kq
      have nlk : lk ∉ [kp, r] := by
        obtain ⟨_, _, z, _⟩ := hK3
        obtain ⟨_, z2⟩ := hR3
        simp only [List.mem_cons, List.not_mem_nil, or_false, not_or]
        exact ⟨lst_ins_ne W3.hk z, lst_ins_ne W3.hk z2⟩
      have nlc : lc ∉ [kp, r] := by
        obtain ⟨_, _, z, _⟩ := hK3
        obtain ⟨_, z2⟩ := hR3
        simp only [List.mem_cons, List.not_mem_nil, or_false, not_or]
        exact ⟨lst_ins_ne W3.hc z, lst_ins_ne W3.hc z2⟩
      have mk : kp ∈ ks := List.mem_of_getElem? hkp
      have kall : Keep (r :: own ks fps) H H' := (k13.mono (fp' := r :: own ks fps) (by simp)).trans1 (k'.mono (fun z h => .inl (by
        simp only [List.mem_cons, List.not_mem_nil, or_false] at h
        rcases h with h | h
        · rw [h]; exact List.mem_cons_of_mem _ (mem_own_k mk)
        · rw [h]; exact List.mem_cons_self)))
      refine kq H' q j fps ⟨k' _ _ W3.hk fun z => absurd z nlk, k' _ _ W3.hc fun z => absurd z nlc, W.nk, W.nc, W.nf, by show (wd.1.set k _).length = 4; rw [List.length_set]; exact W.n1, W.n2, W.nd, fun j' a' ha' => ?_, fun j' c' fp' hc' hf' => ?_, W.dis, W.out⟩ (fun y hy => .inl hy) hR' hj ?_ hq kall
      · show KAt A.K H' a' ((wd.1.set k _).getD j' kNew)
        rw [Mr.getD_set (by rw [W.n1]; exact hk4)]
        by_cases e : j' = k
        · rw [if_pos e]
          rw [e, hkp] at ha'
          rw [← Option.some.inj ha']
          exact hK'
        · rw [if_neg e]
          refine (W3.kat j' a' ha').keep k' ?_
          simp only [List.mem_cons, List.not_mem_nil, or_false, not_or]
          exact ⟨fun z => e (nd_ix W.nd ha' (by rw [z]; exact hkp)), kr_ne (W3.kat j' a' ha') hR3⟩
      · refine (W3.cat j' c' fp' hc' hf').keep k' fun y hy z => ?_
        simp only [List.mem_cons, List.not_mem_nil, or_false] at z
        rcases z with z | z
        · rw [z] at hy
          exact c_k (W3.cat j' c' fp' hc' hf') hK3 hy
        · rw [z] at hy
          exact c_r (W3.cat j' c' fp' hc' hf') hR3 hy
      · by_cases g : q ∈ [r]
        · exact .inl (by rw [List.mem_singleton] at g; rw [g]; exact List.mem_cons_self)
        · exact .inr (k13.free nq g)
    · -- a client
      refine if_f hi ?_
      obtain ⟨c, hc⟩ : ∃ c, cs[k]? = some c := ⟨_, List.getElem?_eq_getElem (by rw [W.nc]; exact hk2)⟩
      obtain ⟨fp, hf⟩ : ∃ fp, fps[k]? = some fp := ⟨_, List.getElem?_eq_getElem (by rw [W.nf]; exact hk2)⟩
      have hC3 := W3.cat k c fp hc hf
      refine ⟨_, rfl, _, rfl, lc, _, _, _, rfl, rfl, SqL.of W3.hc, atI_nat (v := .ref c) (by rw [List.getElem?_map, hc] <;> rfl), _, rfl, _, rfl, ?_⟩
      refine ⟨c, r, a, i + 1 + 1, _, fp, p, x, t, ns, rfl, hC3, few k, hR3, hS3, hA, hw, fun H' q j fp' hC' nw hR' hj nq hq k' => ?_⟩
      rw [pstep_c hw] at kq
      have mf : fp ∈ fps := List.mem_of_getElem? hf
      have hkl : k < fps.length := by rw [W.nf]; exact hk2
      have nlk : lk ∉ r :: fp := by
        obtain ⟨_, z2⟩ := hR3
        rw [List.mem_cons, not_or]
        exact ⟨lst_ins_ne W3.hk z2, (W.out fp mf).1⟩
      have nlc : lc ∉ r :: fp := by
        obtain ⟨_, z2⟩ := hR3
        rw [List.mem_cons, not_or]
        exact ⟨lst_ins_ne W3.hc z2, (W.out fp mf).2⟩
      have kall : Keep (r :: own ks fps) H H' := (k13.mono (fp' := r :: own ks fps) (by simp)).trans1 (k'.mono (fun z h => .inl (by
        rw [List.mem_cons] at h
        rcases h with h | h
        · rw [h]; exact List.mem_cons_self
        · exact List.mem_cons_of_mem _ (mem_own_f mf h))))
      -- what stood in H3 is none of the new objects
      have nw3 : ∀ y ∈ fp', y ∉ fp → H3 y = none := fun y hy hn => (nw y hy).resolve_left hn
      have gset : ∀ (j' : Nat) (g : List Addr), (fps.set k fp')[j']? = some g → (j' = k ∧ g = fp') ∨ (j' ≠ k ∧ fps[j']? = some g) := fun j' g hg => by
        by_cases e : j' = k
        · rw [e, List.getElem?_set_self hkl] at hg
          exact .inl ⟨e, (Option.some.inj hg).symm⟩
        · rw [List.getElem?_set_ne fun z => e z.symm] at hg
          exact .inr ⟨e, hg⟩
      have cs_at : ∀ (j' : Nat) (g : List Addr), fps[j']? = some g → ∃ c', cs[j']? = some c' := fun j' g hg => by
        have := (List.getElem?_eq_some_iff.mp hg).1
        exact ⟨_, List.getElem?_eq_getElem (by rw [W.nc]; rw [W.nf] at this; exact this)⟩
      have gsome : ∀ (j' : Nat) (g : List Addr), fps[j']? = some g → ∀ y ∈ g, H3 y ≠ none := fun j' g hg y hy => by
        obtain ⟨c', hc'⟩ := cs_at j' g hg
        exact c_some (W3.cat j' c' g hc' hg) hy
      refine kq H' q j (fps.set k fp') ⟨k' _ _ W3.hk fun z => absurd z nlk, k' _ _ W3.hc fun z => absurd z nlc, W.nk, W.nc, by rw [List.length_set]; exact W.nf, W.n1, by show (wd.2.set k _).length = 2; rw [List.length_set]; exact W.n2, W.nd, fun j' a' ha' => ?_, fun j' c' g hc' hg => ?_, ?_, ?_⟩ ?_ hR' hj ?_ hq kall
      · refine (W3.kat j' a' ha').keep k' ?_
        rw [List.mem_cons, not_or]
        exact ⟨kr_ne (W3.kat j' a' ha') hR3, c_k hC3 (W3.kat j' a' ha')⟩
      · show CAt A.C A.O H' c' ((wd.2.set k _).getD j' PCl.fresh) g
        rw [Mr.getD_set (by rw [W.n2]; exact hk2)]
        rcases gset j' g hg with ⟨e, eg⟩ | ⟨e, hg'⟩
        · rw [if_pos e, eg]
          rw [e, hc] at hc'
          rw [← Option.some.inj hc']
          exact hC'
        · rw [if_neg e]
          refine (W3.cat j' c' g hc' hg').keep k' fun y hy z => ?_
          rw [List.mem_cons] at z
          rcases z with z | z
          · rw [z] at hy
            exact c_r (W3.cat j' c' g hc' hg') hR3 hy
          · exact W.dis j' k g fp e hg' hf y hy z
      · intro i' j' f1 g1 hij h1 h2 y hy1 hy2
        rcases gset i' f1 h1 with ⟨e1, eg1⟩ | ⟨e1, h1'⟩ <;> rcases gset j' g1 h2 with ⟨e2, eg2⟩ | ⟨e2, h2'⟩
        · exact hij (e1.trans e2.symm)
        · rw [eg1] at hy1
          by_cases hn : y ∈ fp
          · exact W.dis k j' fp g1 (fun z => e2 z.symm) hf h2' y hn hy2
          · exact gsome j' g1 h2' y hy2 (nw3 y hy1 hn)
        · rw [eg2] at hy2
          by_cases hn : y ∈ fp
          · exact W.dis i' k f1 fp e1 h1' hf y hy1 hn
          · exact gsome i' f1 h1' y hy1 (nw3 y hy2 hn)
        · exact W.dis i' j' f1 g1 hij h1' h2' y hy1 hy2
      · intro g hg
        obtain ⟨j', hj'⟩ := List.mem_iff_getElem?.mp hg
        rcases gset j' g hj' with ⟨e1, eg1⟩ | ⟨e1, h1'⟩
        · rw [eg1]
          refine ⟨fun z => ?_, fun z => ?_⟩
          · by_cases hn : lk ∈ fp
            · exact (W.out fp mf).1 hn
            · have := nw3 lk z hn
              rw [W3.hk] at this
              cases this
          · by_cases hn : lc ∈ fp
            · exact (W.out fp mf).2 hn
            · have := nw3 lc z hn
              rw [W3.hc] at this
              cases this
        · exact W.out g (List.mem_of_getElem? h1')
      · intro y hy
        rcases List.mem_append.mp hy with hy | hy
        · exact .inl (mem_own_k hy)
        · obtain ⟨g, hg, hyg⟩ := List.mem_flatten.mp hy
          obtain ⟨j', hj'⟩ := List.mem_iff_getElem?.mp hg
          rcases gset j' g hj' with ⟨e1, eg1⟩ | ⟨e1, h1'⟩
          · rw [eg1] at hyg
            by_cases hn : y ∈ fp
            · exact .inl (mem_own_f mf hn)
            · have hy3 := nw3 y hyg hn
              by_cases g2 : y ∈ [r]
              · rw [List.mem_singleton] at g2
                obtain ⟨_, z2⟩ := hR3
                rw [g2, z2] at hy3
                cases hy3
              · exact .inr (k13.free hy3 g2)
          · exact .inl (mem_own_f (List.mem_of_getElem? h1') hyg)
      · rcases nq with nq | nq
        · rw [List.mem_cons] at nq
          rcases nq with nq | nq
          · exact .inl (by rw [nq]; exact List.mem_cons_self)
          · exact .inl (List.mem_cons_of_mem _ (mem_own_f mf nq))
        · by_cases g : q ∈ [r]
          · exact .inl (by rw [List.mem_singleton] at g; rw [g]; exact List.mem_cons_self)
          · exact .inr (k13.free nq g)
end
end Pf

/-! answers. -/
namespace Pf
open PySem PySem.Spec PyProof.Rows L2
open Km356 (Held Message nothing le num crc messageOf later kDoes)
open Mr (POp PCl allB Wd pstep kNew)
open PySem.W (Frag)
/-! ### no client has heard of more than fifteen keepers -/
def Okp (p : PCl) : Prop := p.keepers ≤ 15 ∧ Few p
theorem goOn_ans (o : POp) : o.goOn.answered = [] := by
  obtain ⟨oc, oo, oa, oan, oh, od⟩ := o
  unfold POp.goOn
  split
  · rfl
  · cases oo with
    | none => rfl
    | some v =>
      show (POp.tellOwn ⟨oc, some v, oa, [], oh, od⟩ v).answered = []
      unfold POp.tellOwn
      split <;> rfl
theorem begins_ok {p : PCl} (h : Okp p) (w : Option Nat) : Okp (p.begins w).1 := by
  unfold PCl.begins
  split
  · exact h
  · split
    · exact h
    · exact ⟨h.1, fun o e => by cases e; exact Nat.zero_le _⟩
theorem does_ok {p : PCl} (h : Okp p) (x : Km356.Call) : Okp (p.does x).1 := by
  cases x with
  | kStart _ => exact h
  | kHeard _ => exact h
  | cStart me n =>
    show Okp (p.starts me n).1
    unfold PCl.starts
    split
    · exact h
    · exact ⟨show n ≤ 15 by omega, fun o e => by cases e⟩
  | cRead => exact begins_ok h _
  | cWrite v => exact begins_ok h _
  | cSay => exact h
  | cDone => exact h
  | cHeard l =>
    show Okp (p.heard l).1
    unfold PCl.heard
    cases messageOf l with
    | none => exact h
    | some m =>
      cases e : p.last with
      | none => exact h
      | some o =>
        show Okp (if p.awaits m = true then (p.takes o m, (1 : Int)) else (p, 0)).1
        split
        · refine ⟨h.1, fun o' e' => ?_⟩
          have e' : some (if p.keepers < 2 * (o.keep m).answered.length then (o.keep m).goOn else o.keep m) = some o' := e'
          have e2 := Option.some.inj e'
          rw [← e2]
          split
          · rw [goOn_ans]; exact Nat.zero_le _
          · have := h.1; omega
        · exact h
theorem pstep_ok {w : Wd} (hl : w.2.length = 2) (h : ∀ j, Okp (w.2.getD j PCl.fresh)) (k : Nat) (x : Km356.Call) : ∀ j, Okp ((pstep w k x).1.2.getD j PCl.fresh) := by
  intro j
  unfold pstep
  split
  · exact h j
  · show Okp ((w.2.set k _).getD j PCl.fresh)
    by_cases hk : k < w.2.length
    · rw [Mr.getD_set hk]
      split
      · exact does_ok (h k) x
      · exact h j
    · rw [List.set_eq_of_length_le (by omega)]
      exact h j
theorem nxt_len {r t : List Int} {k : Nat} {x : Km356.Call} (h : Mr.Nxt r k x t) : t.length < r.length := by
  cases h <;> simp [List.length_append] <;> omega
theorem w0_k (j : Nat) : Mr.w0.1.getD j kNew = kNew := by
  match j with
  | 0 => rfl
  | 1 => rfl
  | 2 => rfl
  | 3 => rfl
  | j + 4 => simp [Mr.w0]
theorem w0_c (j : Nat) : Mr.w0.2.getD j PCl.fresh = PCl.fresh := by
  match j with
  | 0 => rfl
  | 1 => rfl
  | j + 2 => simp [Mr.w0]
def spAns (K : Frag) : Sp := fun vs H Q _ => ∃ (a : Addr) (ns : List Int), vs = [.ref a] ∧ SqL K H a (iv ns) ∧ PyKm356.answers_asked ns = true ∧ ∀ (H' : Hp) (p : Addr), H' p = some (.lst (iv (PyKm356.answers ns))) → Q (.ref p) H'
/-- the invariant of the loop: before a call at place i -/
structure At (K : Frag) (A : Ad) (H0 : Hp) (a lk lc r la : Addr) (ks cs : List Addr) (ns : List Int) (i : Nat) (w : Wd) (fps : List (List Addr)) (out : List Int) (H : Hp) : Prop where
  left : Mr.Left (PyKm356.answers ns) out (ns.drop i) w
  ok : ∀ j, Okp (w.2.getD j PCl.fresh)
  W : WAt A H lk lc ks cs fps w
  R : RAt A.R H r a i
  hla : H la = some (.lst (iv out))
  old : Keep [] H0 H
  nr : H0 r = none
  nla : H0 la = none
  nown : ∀ x ∈ own ks fps, H0 x = none
  fr : la ∉ r :: own ks fps
  fk : la ≠ lk
  fc : la ≠ lc
  nlk : H0 lk = none
  nlc : H0 lc = none
section
variable {P : Program} {w : World} {K : Frag} {mg : Str → Option Value} {base : Heap} {A : Ad}
theorem scAns : FnScope ["calls", "keepers", "clients", "reader", "answered", "one", "place"] ["calls"] (defScope sAns) := fnsc
theorem ok_ans {f : Addr} {fd : FuncData} (F : Fun K "answers" "answers" sAns f fd) (T : Txt K mg A) (cK : CDef P w K mg base A.K "Keeper" 1 ["self"] (spKI A.K)) (cC : CDef P w K mg base A.C "Client" 1 ["self"] (spCI A.C A.O)) (cR : CDef P w K mg base A.R "Reader" 1 ["self", "calls"] (spRI A.R))
    (mM : MDef P w K mg base A.R "has_more" 1 ["self"] (spRM K A.R)) (gN : GDef P w K mg base "answer_next_call" 7 ["reader", "keepers", "clients"] (spNext K A)) : FnOk P w K mg base CX0 8 f fd ["calls"] (spAns K) := by
  refine F.ok scAns (fun vs H Q E h => ?_) (fun cdv A' outer s H vs Q E hr h => ?_)
  · obtain ⟨a, ns, rfl, _⟩ := h
    rfl
  · obtain ⟨a, ns, rfl, hS, hask, k⟩ := h
    have hr1 : Room 1 _ := hr.mono (by decide)
    have hr2 : Room 2 _ := hr.mono (by decide)
    refine ⟨_, pss_cons (ps_setLc (i := 1) (own := [("place", 6)]) (g := gName 6) rfl scAns.nd rfl rfl (sw_true rfl rfl rfl (by decide +kernel)) (pi_range1 rfl T.range (pa_cons (pe_cst T.KEEPERS) pa_nil)) (blkOk_by (N := ["calls", "keepers", "clients", "reader", "answered", "one", "place"]) (sc := defScope sAns) (by decide +kernel))
        (fun _ _ _ _ _ => pg_name (i := 6) scAns.nd rfl (Or.inl rfl)) (fun _ _ _ _ _ => pts_nil) (fun _ _ _ _ _ => pe_c0 cK hr2))
      (pss_cons (ps_setLc (i := 2) (own := [("place", 6)]) (g := gName 6) rfl scAns.nd rfl rfl (sw_true rfl rfl rfl (by decide +kernel)) (pi_range1 rfl T.range (pa_cons (pe_cst T.CLIENTS) pa_nil)) (blkOk_by (N := ["calls", "keepers", "clients", "reader", "answered", "one", "place"]) (sc := defScope sAns) (by decide +kernel))
        (fun _ _ _ _ _ => pg_name (i := 6) scAns.nd rfl (Or.inl rfl)) (fun _ _ _ _ _ => pts_nil) (fun _ _ _ _ _ => pe_c0 cC hr2))
      (pss_cons (ps_set (i := 3) scAns.nd rfl (Or.inl rfl) (pe_c cR hr2 (pa_cons (pv 0) pa_nil)))
      (pss_cons (ps_set (i := 4) scAns.nd rfl (Or.inl rfl) (pe_lst pa_nil))
      (pss_cons (ps_while PassesOwn.never (pt_val (pe_m0 (pv 3) T.clR mM hr1))
        (pss_cons (ps_set (i := 5) scAns.nd rfl (Or.inl rfl) (pe_g gN hr (pa_cons (pv 3) (pa_cons (pv 1) (pa_cons (pv 2) pa_nil)))))
        (pss_cons (ps_expr (pe_bm PySem.F.plainAttrs_list PySem.F.slot_list_append PySem.F.type_list_append mt_append (pv 4) (pa_cons (pe_callB call_len_seq (by rfl) T.len PySem.boot_len (pa_cons (pv 5) pa_nil)) pa_nil)))
        (pss_one (ps_expr (pe_bm PySem.F.plainAttrs_list PySem.F.slot_list_extend PySem.F.type_list_extend mt_extend (pv 4) (pa_cons (pv 5) pa_nil)))))))
      (pss_one (ps_ret (pv 4))))))), ?_⟩
    obtain ⟨hleft, htot⟩ := Mr.left0 hask
    -- keepers
    refine ⟨4, rfl, by decide, by decide, fun lk nlk => lc_range (lo := 0) (n := 4) (fun i H' => ∃ ks : List Addr, ks.length = i ∧ ks.Nodup ∧ H' lk = some (.lst (ks.map V.ref)) ∧ (∀ x ∈ ks, KAt A.K H' x kNew ∧ H x = none) ∧ Keep [] H H')
      ⟨[], rfl, List.nodup_nil, upd_same, (fun x hx => by cases hx), .new nlk⟩ ?_ ?_⟩
    · rintro i H1 hi ⟨ks, hlen, hnd, hl, hall, k1⟩
      refine ⟨rfl, ?_⟩
      unfold tYes
      dsimp only
      rw [if_pos rfl]
      intro x dx nx nd ne
      refine ⟨x, dx, rfl, upd_same, fun H2 hK k2 => ⟨rfl, ?_⟩⟩
      have k2' := Keep.made nx nd k2
      have hl2 := k2' _ _ hl (by simp)
      obtain ⟨_, _, hx2, _⟩ := id hK
      have nxl : x ≠ lk := (lst_ins_ne hl2 hx2).symm
      have nx0 : H x = none := k1.free nx (by simp)
      have nxk : x ∉ ks := fun z => by
        obtain ⟨⟨_, _, z1, _⟩, _⟩ := hall x z
        rw [nx] at z1
        cases z1
      have k3 : Keep [lk] H2 (upd H2 lk (.lst (ks.map V.ref ++ [.ref x]))) := .lst hl2 (by simp)
      refine ⟨_, hl2, by rw [List.length_map, hlen]; exact Nat.lt_of_lt_of_le hi (by decide), ks ++ [x], by rw [List.length_append, hlen]; rfl, ?_, by rw [upd_same, List.map_append]; rfl, ?_, ?_⟩
      · rw [List.nodup_append]
        refine ⟨hnd, by simp, fun y hy z hz => ?_⟩
        rw [List.mem_singleton] at hz
        rw [hz]
        rintro rfl
        exact nxk hy
      · intro y hy
        rcases List.mem_append.mp hy with hy | hy
        · obtain ⟨z1, z2⟩ := hall y hy
          have z3 := z1.same k2'
          refine ⟨z3.keep k3 ?_, z2⟩
          rw [List.mem_singleton]
          obtain ⟨_, _, z4, _⟩ := z3
          exact (lst_ins_ne hl2 z4).symm
        · rw [List.mem_singleton] at hy
          rw [hy]
          exact ⟨hK.keep k3 (by simp; exact nxl), nx0⟩
      · exact (k1.trans1 k2').trans k3 fun y hy => .inr (by rw [List.mem_singleton] at hy; rw [hy]; exact nlk)
    rintro H1 ⟨ks, hkl, hknd, hlk, hkall, k1⟩
    -- clients
    refine ⟨2, rfl, by decide, by decide, fun lc nlc => lc_range (lo := 0) (n := 2) (fun i H' => ∃ cs : List Addr, cs.length = i ∧ cs.Nodup ∧ H' lc = some (.lst (cs.map V.ref)) ∧ (∀ x ∈ cs, CAt A.C A.O H' x PCl.fresh [x] ∧ H1 x = none) ∧ Keep [] H1 H')
      ⟨[], rfl, List.nodup_nil, upd_same, (fun x hx => by cases hx), .new nlc⟩ ?_ ?_⟩
    · rintro i H2 hi ⟨cs, hlen, hnd, hl, hall, k2⟩
      refine ⟨rfl, ?_⟩
      unfold tYes
      dsimp only
      rw [if_pos rfl]
      intro x dx nx nd ne
      refine ⟨x, dx, rfl, upd_same, fun H3 hC k3 => ⟨rfl, ?_⟩⟩
      have k3' := Keep.made nx nd k3
      have hl3 := k3' _ _ hl (by simp)
      obtain ⟨_, _, hx3, _⟩ := id hC
      have nxl : x ≠ lc := (lst_ins_ne hl3 hx3).symm
      have nx0 : H1 x = none := k2.free nx (by simp)
      have nxk : x ∉ cs := fun z => by
        obtain ⟨z1, _⟩ := hall x z
        exact c_some z1 (by simp) nx
      have k4 : Keep [lc] H3 (upd H3 lc (.lst (cs.map V.ref ++ [.ref x]))) := .lst hl3 (by simp)
      refine ⟨_, hl3, by rw [List.length_map, hlen]; exact Nat.lt_of_lt_of_le hi (by decide), cs ++ [x], by rw [List.length_append, hlen]; rfl, ?_, by rw [upd_same, List.map_append]; rfl, ?_, ?_⟩
      · rw [List.nodup_append]
        refine ⟨hnd, by simp, fun y hy z hz => ?_⟩
        rw [List.mem_singleton] at hz
        rw [hz]
        rintro rfl
        exact nxk hy
      · intro y hy
        rcases List.mem_append.mp hy with hy | hy
        · obtain ⟨z1, z2⟩ := hall y hy
          have z3 := z1.same k3'
          refine ⟨z3.keep k4 fun u hu => ?_, z2⟩
          rw [List.mem_singleton] at hu
          rw [hu, List.mem_singleton]
          obtain ⟨_, _, z4, _⟩ := z3
          exact (lst_ins_ne hl3 z4).symm
        · rw [List.mem_singleton] at hy
          rw [hy]
          refine ⟨hC.keep k4 fun u hu => ?_, nx0⟩
          rw [List.mem_singleton] at hu
          rw [hu, List.mem_singleton]
          exact nxl
      · exact (k2.trans1 k3').trans k4 fun y hy => .inr (by rw [List.mem_singleton] at hy; rw [hy]; exact nlc)
    rintro H2 ⟨cs, hcl, hcnd, hlc, hcall, k2⟩
    have k02 : Keep [] H H2 := k1.trans1 k2
    -- the reader
    refine ⟨_, rfl, ?_⟩
    intro r dr nr nd ne
    refine ⟨r, dr, a, rfl, upd_same, fun H3 hR k3 => ⟨rfl, ?_⟩⟩
    have k3' := Keep.made nr nd k3
    -- answered
    refine ⟨(by show 0 ≤ sizeLine; decide), fun la nla => ?_⟩
    have k4 : Keep [] H3 (upd H3 la (.lst [])) := .new nla
    generalize eH4 : upd H3 la (.lst []) = H4 at k4 ⊢
    have hla : H4 la = some (.lst (iv [])) := by rw [← eH4, upd_same] <;> rfl
    clear eH4
    have k24 : Keep [] H2 H4 := k3'.trans1 k4
    have hR4 : RAt A.R H4 r a 0 := hR.keep k4 (by simp)
    have fl : ∀ (x : Addr), x ∈ (cs.map fun c => [c]).flatten ↔ x ∈ cs := fun x => by
      rw [List.mem_flatten]
      constructor
      · rintro ⟨l, hl, hx⟩
        obtain ⟨c, hc, rfl⟩ := List.mem_map.mp hl
        rw [List.mem_singleton] at hx
        rw [hx]
        exact hc
      · exact fun h => ⟨[x], List.mem_map.mpr ⟨x, h, rfl⟩, by simp⟩
    have gat : ∀ (j : Nat) (g : List Addr), (cs.map fun c => [c])[j]? = some g → ∃ c, cs[j]? = some c ∧ g = [c] := fun j g hg => by
      rw [List.getElem?_map] at hg
      cases e : cs[j]? with
      | none => rw [e] at hg; cases hg
      | some c => rw [e] at hg; exact ⟨c, rfl, (Option.some.inj hg).symm⟩
    have hlk2 : H2 lk = some (.lst (ks.map V.ref)) := k2 _ _ hlk (by simp)
    have W0 : WAt A H4 lk lc ks cs (cs.map fun c => [c]) Mr.w0 := by
      refine ⟨k24 _ _ hlk2 (by simp), k24 _ _ hlc (by simp), hkl, hcl, by rw [List.length_map]; exact hcl, rfl, rfl, hknd, fun j y hy => ?_, fun j c fp hc hf => ?_, fun i j f1 g1 hij h1 h2 y hy1 hy2 => ?_, fun g hg => ?_⟩
      · rw [w0_k]
        exact ((hkall y (List.mem_of_getElem? hy)).1.same k2).same k24
      · rw [w0_c]
        obtain ⟨c', hc', rfl⟩ := gat j fp hf
        rw [hc] at hc'
        cases hc'
        exact (hcall c (List.mem_of_getElem? hc)).1.same k24
      · obtain ⟨c1, hc1, rfl⟩ := gat i f1 h1
        obtain ⟨c2, hc2, rfl⟩ := gat j g1 h2
        rw [List.mem_singleton] at hy1 hy2
        rw [hy1] at hy2
        rw [hy2] at hc1
        exact hij (nd_ix hcnd hc1 hc2)
      · obtain ⟨c, hc, rfl⟩ := List.mem_map.mp hg
        obtain ⟨_, _, z, _⟩ := (hcall c hc).1
        rw [List.mem_singleton, List.mem_singleton]
        exact ⟨lst_ins_ne hlk2 z, lst_ins_ne hlc z⟩
    have no0 : ∀ y, H2 y = none → H y = none := fun y hy => k02.free hy (by simp)
    have nla2 : H2 la = none := k3'.free nla (by simp)
    have hown : ∀ y ∈ own ks (cs.map fun c => [c]), H y = none ∧ H4 y ≠ none ∧ H2 y ≠ none := fun y hy => by
      rcases List.mem_append.mp hy with hy | hy
      · obtain ⟨z1, z2⟩ := hkall y hy
        have z3 := z1.same k2
        have z4 := z3.same k24
        obtain ⟨_, _, z5, _⟩ := z4
        obtain ⟨_, _, z6, _⟩ := z3
        exact ⟨z2, by rw [z5]; simp, by rw [z6]; simp⟩
      · have hy := (fl y).mp hy
        obtain ⟨z1, z2⟩ := hcall y hy
        exact ⟨k1.free z2 (by simp), c_some (z1.same k24) (by simp), c_some z1 (by simp)⟩
    have start : At K A H a lk lc r la ks cs ns 0 Mr.w0 (cs.map fun c => [c]) [] H4 := by
      refine ⟨hleft, fun j => ?_, W0, hR4, hla, k02.trans1 k24, no0 r nr, no0 la nla2, fun y hy => (hown y hy).1, ?_, ?_, ?_, nlk, k1.free nlc (by simp)⟩
      · rw [w0_c]
        exact ⟨Nat.zero_le _, fun o e => by cases e⟩
      · rw [List.mem_cons, not_or]
        obtain ⟨_, z⟩ := hR4
        exact ⟨lst_ins_ne hla z, fun z => (hown la z).2.2 nla2⟩
      · rintro rfl
        rw [hlk2] at nla2
        cases nla2
      · rintro rfl
        rw [hlc] at nla2
        cases nla2
    -- the loop
    refine ⟨fun m σ H' => ∃ (i : Nat) (wd : Wd) (fps : List (List Addr)) (out : List Int) (v : Option V), σ = [some (.ref a), some (.ref lk), some (.ref lc), some (.ref r), some (.ref la), v, none] ∧ m = ns.length - i ∧ At K A H a lk lc r la ks cs ns i wd fps out H',
      ⟨_, 0, _, _, _, none, rfl, rfl, start⟩, ?_⟩
    rintro m σ H' ⟨i, wd, fps, out, v, rfl, rfl, I⟩
    obtain ⟨dr', hr'⟩ := id I.R
    have hS' : SqL K H' a (iv ns) := sql_same hS I.old
    refine ⟨_, rfl, r, dr', _, rfl, hr', rF_no, r, a, i, ns, rfl, I.R, hS', _, rfl, ?_⟩
    by_cases hi : i < ns.length
    rotate_left
    · refine if_f (decide_eq_false hi) ?_
      have e : ns.drop i = [] := List.drop_eq_nil_of_le (by omega)
      have L := I.left
      rw [e] at L
      have := Mr.left_end L
      refine ⟨_, rfl, k _ la ?_⟩
      rw [this]
      exact I.hla
    refine if_t (decide_eq_true hi) ?_
    refine ⟨fun σ' H'' => ∃ m', m' < ns.length - i ∧ ∃ (i : Nat) (wd : Wd) (fps : List (List Addr)) (out : List Int) (v : Option V), σ' = [some (.ref a), some (.ref lk), some (.ref lc), some (.ref r), some (.ref la), v, none] ∧ m' = ns.length - i ∧ At K A H a lk lc r la ks cs ns i wd fps out H'', fun _ _ h => h, ?_⟩
    obtain ⟨z, rest, er⟩ : ∃ z rest, ns.drop i = z :: rest := ⟨_, _, List.drop_eq_getElem_cons hi⟩
    have L := I.left
    rw [er] at L
    obtain ⟨kk, x, t, N, L', hle⟩ := Mr.left_step L
    rw [← er] at N
    have hlen := nxt_len N
    refine ⟨_, rfl, _, rfl, _, rfl, r, lk, lc, a, i, kk, x, t, ns, ks, cs, fps, wd, rfl, I.W, fun j => (I.ok j).2, I.R, hS', N, fun H5 q j fps' W5 nw hR5 hj nq hq k5 => ?_⟩
    have hla5 : H5 la = some (.lst (iv out)) := k5 _ _ I.hla fun z => absurd z I.fr
    have nql : q ≠ la := by
      rintro rfl
      rcases nq with nq | nq
      · exact I.fr nq
      · rw [I.hla] at nq
        cases nq
    have tot : (out ++ (((pstep wd kk x).2.length : Int) :: (pstep wd kk x).2)).length ≤ 10000000 := Nat.le_trans hle htot
    rw [List.length_append, List.length_cons] at tot
    have sl : (16777216 : Nat) ≤ sizeLine := by decide
    refine ⟨_, rfl, .inl ⟨rfl, _, SqL.of hla5⟩, _, rfl, q, _, rfl, .inl (SqL.of hq), la, _, _, rfl, rfl, hla5, ?_, ?_⟩
    · rw [iv_length]
      omega
    have hq6 : upd H5 la (.lst (iv out ++ [.int ((iv (pstep wd kk x).2).length : Nat)])) q = some (.lst (iv (pstep wd kk x).2)) := by rw [upd_ne nql]; exact hq
    refine ⟨_, rfl, .inl ⟨rfl, _, SqL.of upd_same⟩, _, rfl, la, q, _, _, rfl, rfl, upd_same, hq6, ?_, ?_⟩
    · rw [List.length_append, iv_length, iv_length]
      show out.length + 1 + _ ≤ _
      omega
    rw [upd_upd]
    generalize eH6 : upd H5 la (.lst (iv out ++ [.int ((iv (pstep wd kk x).2).length : Nat)] ++ iv (pstep wd kk x).2)) = H6
    have k6 : Keep [la] H5 H6 := by rw [← eH6]; exact .lst hla5 (by simp)
    have hla6 : H6 la = some (.lst (iv (out ++ (((pstep wd kk x).2.length : Int) :: (pstep wd kk x).2)))) := by
      rw [← eH6, upd_same, iv_length]
      unfold iv
      rw [List.map_append, List.map_cons, List.append_assoc]
      rfl
    clear eH6
    have nlao : ∀ y ∈ own ks fps', y ≠ la := fun y hy => by
      rintro rfl
      rcases nw y hy with z | z
      · exact I.fr (List.mem_cons_of_mem _ z)
      · rw [I.hla] at z
        cases z
    have nrl : r ≠ la := fun z => I.fr (by rw [z]; exact List.mem_cons_self)
    have jlt : i < j := by
      have e1 : (ns.drop i).length = ns.length - i := List.length_drop
      have e2 : (ns.drop j).length = ns.length - j := List.length_drop
      rw [hj] at e2
      omega
    refine ⟨ns.length - j, by omega, j, (pstep wd kk x).1, fps', out ++ (((pstep wd kk x).2.length : Int) :: (pstep wd kk x).2), some (.ref q), rfl, rfl, ?_⟩
    refine ⟨by rw [hj]; exact L', pstep_ok I.W.n2 I.ok kk x, W5.keep k6 (by simp; exact I.fk.symm) (by simp; exact I.fc.symm) (fun y hy z => by rw [List.mem_singleton] at z; exact nlao y hy z), hR5.keep k6 (by simp; exact nrl), hla6, ?_, I.nr, I.nla, fun y hy => ?_, ?_, I.fk, I.fc, I.nlk, I.nlc⟩
    · refine Keep.trans (Keep.trans I.old k5 fun y hy => .inr ?_) k6 fun y hy => .inr ?_
      · rw [List.mem_cons] at hy
        rcases hy with hy | hy
        · rw [hy]; exact I.nr
        · exact I.nown y hy
      · rw [List.mem_singleton] at hy
        rw [hy]
        exact I.nla
    · rcases nw y hy with z | z
      · exact I.nown y z
      · exact I.old.free z (by simp)
    · rw [List.mem_cons, not_or]
      exact ⟨nrl.symm, fun z => nlao la z rfl⟩
end
end Pf

/-! What the top has written: every def keeps its promise. -/
namespace Pf
open PySem PySem.Spec PyProof.Rows L2
open Mr (POp PCl allB Wd pstep kNew)
open PySem.W (Frag)
/-! ### the end: what the top has written -/
section
open PySem.W (nsIn findIn isFn codeIn keepIn fnOf plainGet hasDictIn plainOver makesIn)
theorem all_mk {P : Program} {w : World} {K : Frag} {h : Heap} {mg : Str → Option Value} {fa CM CO CC CK CR f_eight f_crc f_low f_num f_mi f_bytes f_isq f_within f_zeros f_right f_ki f_ks f_ko f_kh f_oi f_og f_oa f_ok f_ot f_om f_ci f_cs f_cg f_cb f_cr f_cw f_ca f_cy f_ch f_cd f_ri f_rm f_rn f_rr f_ck f_cc f_next f_ans : Addr} (X : K.In h) (G : h.Ns mainGlobals mg) (hfa : mg "answers" = some (.ref fa))
    {od_eight an_eight od_crc an_crc od_low an_low od_num an_num od_mi an_mi od_bytes an_bytes od_isq an_isq od_within an_within od_zeros an_zeros od_right an_right od_ki an_ki od_ks an_ks od_ko an_ko od_kh an_kh od_oi an_oi od_og an_og od_oa an_oa od_ok an_ok od_ot an_ot od_om an_om od_ci an_ci od_cs an_cs od_cg an_cg od_cb an_cb od_cr an_cr od_cw an_cw od_ca an_ca od_cy an_cy od_ch an_ch od_cd an_cd od_ri an_ri od_rm an_rm od_rn an_rn od_rr an_rr od_ck an_ck od_cc an_cc od_next an_next od_ans an_ans : Option Addr} {sl_eight sl_crc sl_low sl_num sl_mi sl_bytes sl_isq sl_within sl_zeros sl_right sl_ki sl_ks sl_ko sl_kh sl_oi sl_og sl_oa sl_ok sl_ot sl_om sl_ci sl_cs sl_cg sl_cb sl_cr sl_cw sl_ca sl_cy sl_ch sl_cd sl_ri sl_rm sl_rn sl_rr sl_ck sl_cc sl_next sl_ans : Array (Option Value)} {oc_eight kV_eight dc_eight pm_eight cd_eight ct_eight oc_crc kV_crc dc_crc pm_crc cd_crc ct_crc oc_low kV_low dc_low pm_low cd_low ct_low oc_num kV_num dc_num pm_num cd_num ct_num oc_mi kV_mi dc_mi pm_mi cd_mi ct_mi oc_bytes kV_bytes dc_bytes pm_bytes cd_bytes ct_bytes oc_isq kV_isq dc_isq pm_isq cd_isq ct_isq oc_within kV_within dc_within pm_within cd_within ct_within oc_zeros kV_zeros dc_zeros pm_zeros cd_zeros ct_zeros oc_right kV_right dc_right pm_right cd_right ct_right oc_ki kV_ki dc_ki pm_ki cd_ki ct_ki oc_ks kV_ks dc_ks pm_ks cd_ks ct_ks oc_ko kV_ko dc_ko pm_ko cd_ko ct_ko oc_kh kV_kh dc_kh pm_kh cd_kh ct_kh oc_oi kV_oi dc_oi pm_oi cd_oi ct_oi oc_og kV_og dc_og pm_og cd_og ct_og oc_oa kV_oa dc_oa pm_oa cd_oa ct_oa oc_ok kV_ok dc_ok pm_ok cd_ok ct_ok oc_ot kV_ot dc_ot pm_ot cd_ot ct_ot oc_om kV_om dc_om pm_om cd_om ct_om oc_ci kV_ci dc_ci pm_ci cd_ci ct_ci oc_cs kV_cs dc_cs pm_cs cd_cs ct_cs oc_cg kV_cg dc_cg pm_cg cd_cg ct_cg oc_cb kV_cb dc_cb pm_cb cd_cb ct_cb oc_cr kV_cr dc_cr pm_cr cd_cr ct_cr oc_cw kV_cw dc_cw pm_cw cd_cw ct_cw oc_ca kV_ca dc_ca pm_ca cd_ca ct_ca oc_cy kV_cy dc_cy pm_cy cd_cy ct_cy oc_ch kV_ch dc_ch pm_ch cd_ch ct_ch oc_cd kV_cd dc_cd pm_cd cd_cd ct_cd oc_ri kV_ri dc_ri pm_ri cd_ri ct_ri oc_rm kV_rm dc_rm pm_rm cd_rm ct_rm oc_rn kV_rn dc_rn pm_rn cd_rn ct_rn oc_rr kV_rr dc_rr pm_rr cd_rr ct_rr oc_ck kV_ck dc_ck pm_ck cd_ck ct_ck oc_cc kV_cc dc_cc pm_cc cd_cc ct_cc oc_next kV_next dc_next pm_next cd_next ct_next oc_ans kV_ans dc_ans pm_ans cd_ans ct_ans : Value} {t_POLY t_ONES t_ASK t_HOLDS t_TELL t_IS_HELD t_GCLIENT t_GKEEPER t_GNUMBER t_CHECK t_NOTHING t_NOT_NOW t_GOES_ON t_RANGE t_USED_UP t_WRONG t_COULD t_GCOUNT t_GOP t_KEEPERS t_CLIENTS t_QK_START t_QK_HEARD t_QC_START t_QC_READ t_QC_WRITE t_QC_SAY t_QC_HEARD t_QC_DONE : Tok}
    (b_range : nsIn K mainGlobals "range" = some none)
    (b_len : nsIn K mainGlobals "len" = some none)
    (c_POLY : nsIn K mainGlobals "POLYNOMIAL" = some (some (.int (2197175160) t_POLY)))
    (c_ONES : nsIn K mainGlobals "ALL_ONES" = some (some (.int (4294967295) t_ONES)))
    (c_ASK : nsIn K mainGlobals "ASK" = some (some (.int (1) t_ASK)))
    (c_HOLDS : nsIn K mainGlobals "HOLDS" = some (some (.int (2) t_HOLDS)))
    (c_TELL : nsIn K mainGlobals "TELL" = some (some (.int (3) t_TELL)))
    (c_IS_HELD : nsIn K mainGlobals "IS_HELD" = some (some (.int (4) t_IS_HELD)))
    (c_GCLIENT : nsIn K mainGlobals "GREATEST_CLIENT" = some (some (.int (15) t_GCLIENT)))
    (c_GKEEPER : nsIn K mainGlobals "GREATEST_KEEPER" = some (some (.int (14) t_GKEEPER)))
    (c_GNUMBER : nsIn K mainGlobals "GREATEST_NUMBER" = some (some (.int (4294967295) t_GNUMBER)))
    (c_CHECK : nsIn K mainGlobals "CHECK_AT" = some (some (.int (20) t_CHECK)))
    (c_NOTHING : nsIn K mainGlobals "NOTHING" = some (some (.int (0) t_NOTHING)))
    (c_NOT_NOW : nsIn K mainGlobals "NOT_NOW" = some (some (.int (-11) t_NOT_NOW)))
    (c_GOES_ON : nsIn K mainGlobals "GOES_ON" = some (some (.int (-16) t_GOES_ON)))
    (c_RANGE : nsIn K mainGlobals "OUT_OF_RANGE" = some (some (.int (-22) t_RANGE)))
    (c_USED_UP : nsIn K mainGlobals "USED_UP" = some (some (.int (-28) t_USED_UP)))
    (c_WRONG : nsIn K mainGlobals "WRONG_MESSAGE" = some (some (.int (-71) t_WRONG)))
    (c_COULD : nsIn K mainGlobals "COULD_NOT_BE_DONE" = some (some (.int (-75) t_COULD)))
    (c_GCOUNT : nsIn K mainGlobals "GREATEST_COUNT_OF_KEEPERS" = some (some (.int (15) t_GCOUNT)))
    (c_GOP : nsIn K mainGlobals "GREATEST_OPERATION" = some (some (.int (4294967295) t_GOP)))
    (c_KEEPERS : nsIn K mainGlobals "KEEPERS" = some (some (.int (4) t_KEEPERS)))
    (c_CLIENTS : nsIn K mainGlobals "CLIENTS" = some (some (.int (2) t_CLIENTS)))
    (c_QK_START : nsIn K mainGlobals "QK_START" = some (some (.int (0) t_QK_START)))
    (c_QK_HEARD : nsIn K mainGlobals "QK_HEARD" = some (some (.int (1) t_QK_HEARD)))
    (c_QC_START : nsIn K mainGlobals "QC_START" = some (some (.int (2) t_QC_START)))
    (c_QC_READ : nsIn K mainGlobals "QC_READ" = some (some (.int (3) t_QC_READ)))
    (c_QC_WRITE : nsIn K mainGlobals "QC_WRITE" = some (some (.int (4) t_QC_WRITE)))
    (c_QC_SAY : nsIn K mainGlobals "QC_SAY" = some (some (.int (5) t_QC_SAY)))
    (c_QC_HEARD : nsIn K mainGlobals "QC_HEARD" = some (some (.int (6) t_QC_HEARD)))
    (c_QC_DONE : nsIn K mainGlobals "QC_DONE" = some (some (.int (7) t_QC_DONE)))
    (n_M : nsIn K mainGlobals "Message" = some (some (.ref CM)))
    (pg_M : plainGet K CM Str.empty = true)
    (hd_M : hasDictIn K CM = true)
    (po_M : plainOver K CM = true)
    (sa_M : findIn K (.ref CM) "__setattr__" = some (some (.builtin "object.__setattr__")))
    (mk_M : makesIn K CM = true)
    (kc_M : keepIn K (.ref CM) = true)
    (no_Mkind : findIn K (.ref CM) "kind" = some none)
    (no_Mclient : findIn K (.ref CM) "client" = some none)
    (no_Mkeeper : findIn K (.ref CM) "keeper" = some none)
    (no_Mop : findIn K (.ref CM) "operation" = some none)
    (no_Mstamp : findIn K (.ref CM) "stamp" = some none)
    (no_Mvalue : findIn K (.ref CM) "value" = some none)
    (n_O : nsIn K mainGlobals "Operation" = some (some (.ref CO)))
    (pg_O : plainGet K CO Str.empty = true)
    (hd_O : hasDictIn K CO = true)
    (po_O : plainOver K CO = true)
    (sa_O : findIn K (.ref CO) "__setattr__" = some (some (.builtin "object.__setattr__")))
    (mk_O : makesIn K CO = true)
    (kc_O : keepIn K (.ref CO) = true)
    (no_Oclient : findIn K (.ref CO) "client" = some none)
    (no_Oown : findIn K (.ref CO) "own_value" = some none)
    (no_Oasking : findIn K (.ref CO) "asking" = some none)
    (no_Oanswered : findIn K (.ref CO) "answered" = some none)
    (no_Ostamp : findIn K (.ref CO) "stamp" = some none)
    (no_Ovalue : findIn K (.ref CO) "value" = some none)
    (no_Odone : findIn K (.ref CO) "is_done" = some none)
    (n_C : nsIn K mainGlobals "Client" = some (some (.ref CC)))
    (pg_C : plainGet K CC Str.empty = true)
    (hd_C : hasDictIn K CC = true)
    (po_C : plainOver K CC = true)
    (sa_C : findIn K (.ref CC) "__setattr__" = some (some (.builtin "object.__setattr__")))
    (mk_C : makesIn K CC = true)
    (kc_C : keepIn K (.ref CC) = true)
    (no_Cme : findIn K (.ref CC) "me" = some none)
    (no_Ckeepers : findIn K (.ref CC) "keepers" = some none)
    (no_Cbegun : findIn K (.ref CC) "begun" = some none)
    (no_Clast : findIn K (.ref CC) "last" = some none)
    (n_K : nsIn K mainGlobals "Keeper" = some (some (.ref CK)))
    (pg_K : plainGet K CK Str.empty = true)
    (hd_K : hasDictIn K CK = true)
    (po_K : plainOver K CK = true)
    (sa_K : findIn K (.ref CK) "__setattr__" = some (some (.builtin "object.__setattr__")))
    (mk_K : makesIn K CK = true)
    (kc_K : keepIn K (.ref CK) = true)
    (no_Kme : findIn K (.ref CK) "me" = some none)
    (no_Kstamp : findIn K (.ref CK) "stamp" = some none)
    (no_Kvalue : findIn K (.ref CK) "value" = some none)
    (n_R : nsIn K mainGlobals "Reader" = some (some (.ref CR)))
    (pg_R : plainGet K CR Str.empty = true)
    (hd_R : hasDictIn K CR = true)
    (po_R : plainOver K CR = true)
    (sa_R : findIn K (.ref CR) "__setattr__" = some (some (.builtin "object.__setattr__")))
    (mk_R : makesIn K CR = true)
    (kc_R : keepIn K (.ref CR) = true)
    (no_Rcalls : findIn K (.ref CR) "calls" = some none)
    (no_Rat : findIn K (.ref CR) "at" = some none)
    (a_eight : nsIn K mainGlobals "eight_steps" = some (some (.ref f_eight)))
    (l_eight : K.lookup f_eight = some ⟨oc_eight, od_eight, .func (fnOf "eight_steps" "eight_steps" (defArgs sEight) (defBody sEight) (defScope sEight) .none kV_eight dc_eight pm_eight an_eight cd_eight ct_eight), sl_eight⟩)
    (cd_i_eight : codeIn K cd_eight "eight_steps" = true)
    (k_eight : keepIn K (.ref f_eight) = true)
    (a_crc : nsIn K mainGlobals "crc32c" = some (some (.ref f_crc)))
    (l_crc : K.lookup f_crc = some ⟨oc_crc, od_crc, .func (fnOf "crc32c" "crc32c" (defArgs sCrc) (defBody sCrc) (defScope sCrc) .none kV_crc dc_crc pm_crc an_crc cd_crc ct_crc), sl_crc⟩)
    (cd_i_crc : codeIn K cd_crc "crc32c" = true)
    (k_crc : keepIn K (.ref f_crc) = true)
    (a_low : nsIn K mainGlobals "low_first" = some (some (.ref f_low)))
    (l_low : K.lookup f_low = some ⟨oc_low, od_low, .func (fnOf "low_first" "low_first" (defArgs sLow) (defBody sLow) (defScope sLow) .none kV_low dc_low pm_low an_low cd_low ct_low), sl_low⟩)
    (cd_i_low : codeIn K cd_low "low_first" = true)
    (k_low : keepIn K (.ref f_low) = true)
    (a_num : nsIn K mainGlobals "number_at" = some (some (.ref f_num)))
    (l_num : K.lookup f_num = some ⟨oc_num, od_num, .func (fnOf "number_at" "number_at" (defArgs sNum) (defBody sNum) (defScope sNum) .none kV_num dc_num pm_num an_num cd_num ct_num), sl_num⟩)
    (cd_i_num : codeIn K cd_num "number_at" = true)
    (k_num : keepIn K (.ref f_num) = true)
    (a_mi : findIn K (.ref CM) "__init__" = some (some (.ref f_mi)))
    (i_mi : isFn K (.ref f_mi) = true)
    (l_mi : K.lookup f_mi = some ⟨oc_mi, od_mi, .func (fnOf "__init__" "Message.__init__" (defArgs sMI) (defBody sMI) (defScope sMI) .none kV_mi dc_mi pm_mi an_mi cd_mi ct_mi), sl_mi⟩)
    (cd_i_mi : codeIn K cd_mi "Message.__init__" = true)
    (k_mi : keepIn K (.ref f_mi) = true)
    (a_bytes : nsIn K mainGlobals "bytes_of" = some (some (.ref f_bytes)))
    (l_bytes : K.lookup f_bytes = some ⟨oc_bytes, od_bytes, .func (fnOf "bytes_of" "bytes_of" (defArgs sBytes) (defBody sBytes) (defScope sBytes) .none kV_bytes dc_bytes pm_bytes an_bytes cd_bytes ct_bytes), sl_bytes⟩)
    (cd_i_bytes : codeIn K cd_bytes "bytes_of" = true)
    (k_bytes : keepIn K (.ref f_bytes) = true)
    (a_isq : nsIn K mainGlobals "is_question" = some (some (.ref f_isq)))
    (l_isq : K.lookup f_isq = some ⟨oc_isq, od_isq, .func (fnOf "is_question" "is_question" (defArgs sIsQ) (defBody sIsQ) (defScope sIsQ) .none kV_isq dc_isq pm_isq an_isq cd_isq ct_isq), sl_isq⟩)
    (cd_i_isq : codeIn K cd_isq "is_question" = true)
    (k_isq : keepIn K (.ref f_isq) = true)
    (a_within : nsIn K mainGlobals "is_within_bounds" = some (some (.ref f_within)))
    (l_within : K.lookup f_within = some ⟨oc_within, od_within, .func (fnOf "is_within_bounds" "is_within_bounds" (defArgs sWithin) (defBody sWithin) (defScope sWithin) .none kV_within dc_within pm_within an_within cd_within ct_within), sl_within⟩)
    (cd_i_within : codeIn K cd_within "is_within_bounds" = true)
    (k_within : keepIn K (.ref f_within) = true)
    (a_zeros : nsIn K mainGlobals "has_its_zeros" = some (some (.ref f_zeros)))
    (l_zeros : K.lookup f_zeros = some ⟨oc_zeros, od_zeros, .func (fnOf "has_its_zeros" "has_its_zeros" (defArgs sZeros) (defBody sZeros) (defScope sZeros) .none kV_zeros dc_zeros pm_zeros an_zeros cd_zeros ct_zeros), sl_zeros⟩)
    (cd_i_zeros : codeIn K cd_zeros "has_its_zeros" = true)
    (k_zeros : keepIn K (.ref f_zeros) = true)
    (a_right : nsIn K mainGlobals "right_message" = some (some (.ref f_right)))
    (l_right : K.lookup f_right = some ⟨oc_right, od_right, .func (fnOf "right_message" "right_message" (defArgs sRight) (defBody sRight) (defScope sRight) .none kV_right dc_right pm_right an_right cd_right ct_right), sl_right⟩)
    (cd_i_right : codeIn K cd_right "right_message" = true)
    (k_right : keepIn K (.ref f_right) = true)
    (a_ki : findIn K (.ref CK) "__init__" = some (some (.ref f_ki)))
    (i_ki : isFn K (.ref f_ki) = true)
    (l_ki : K.lookup f_ki = some ⟨oc_ki, od_ki, .func (fnOf "__init__" "Keeper.__init__" (defArgs sKI) (defBody sKI) (defScope sKI) .none kV_ki dc_ki pm_ki an_ki cd_ki ct_ki), sl_ki⟩)
    (cd_i_ki : codeIn K cd_ki "Keeper.__init__" = true)
    (k_ki : keepIn K (.ref f_ki) = true)
    (a_ks : findIn K (.ref CK) "qk_start" = some (some (.ref f_ks)))
    (i_ks : isFn K (.ref f_ks) = true)
    (l_ks : K.lookup f_ks = some ⟨oc_ks, od_ks, .func (fnOf "qk_start" "Keeper.qk_start" (defArgs sKS) (defBody sKS) (defScope sKS) .none kV_ks dc_ks pm_ks an_ks cd_ks ct_ks), sl_ks⟩)
    (cd_i_ks : codeIn K cd_ks "Keeper.qk_start" = true)
    (k_ks : keepIn K (.ref f_ks) = true)
    (a_ko : findIn K (.ref CK) "hold" = some (some (.ref f_ko)))
    (i_ko : isFn K (.ref f_ko) = true)
    (l_ko : K.lookup f_ko = some ⟨oc_ko, od_ko, .func (fnOf "hold" "Keeper.hold" (defArgs sKO) (defBody sKO) (defScope sKO) .none kV_ko dc_ko pm_ko an_ko cd_ko ct_ko), sl_ko⟩)
    (cd_i_ko : codeIn K cd_ko "Keeper.hold" = true)
    (k_ko : keepIn K (.ref f_ko) = true)
    (a_kh : findIn K (.ref CK) "qk_heard" = some (some (.ref f_kh)))
    (i_kh : isFn K (.ref f_kh) = true)
    (l_kh : K.lookup f_kh = some ⟨oc_kh, od_kh, .func (fnOf "qk_heard" "Keeper.qk_heard" (defArgs sKH) (defBody sKH) (defScope sKH) .none kV_kh dc_kh pm_kh an_kh cd_kh ct_kh), sl_kh⟩)
    (cd_i_kh : codeIn K cd_kh "Keeper.qk_heard" = true)
    (k_kh : keepIn K (.ref f_kh) = true)
    (a_oi : findIn K (.ref CO) "__init__" = some (some (.ref f_oi)))
    (i_oi : isFn K (.ref f_oi) = true)
    (l_oi : K.lookup f_oi = some ⟨oc_oi, od_oi, .func (fnOf "__init__" "Operation.__init__" (defArgs sOI) (defBody sOI) (defScope sOI) .none kV_oi dc_oi pm_oi an_oi cd_oi ct_oi), sl_oi⟩)
    (cd_i_oi : codeIn K cd_oi "Operation.__init__" = true)
    (k_oi : keepIn K (.ref f_oi) = true)
    (a_og : findIn K (.ref CO) "goes_on" = some (some (.ref f_og)))
    (i_og : isFn K (.ref f_og) = true)
    (l_og : K.lookup f_og = some ⟨oc_og, od_og, .func (fnOf "goes_on" "Operation.goes_on" (defArgs sOG) (defBody sOG) (defScope sOG) .none kV_og dc_og pm_og an_og cd_og ct_og), sl_og⟩)
    (cd_i_og : codeIn K cd_og "Operation.goes_on" = true)
    (k_og : keepIn K (.ref f_og) = true)
    (a_oa : findIn K (.ref CO) "awaits" = some (some (.ref f_oa)))
    (i_oa : isFn K (.ref f_oa) = true)
    (l_oa : K.lookup f_oa = some ⟨oc_oa, od_oa, .func (fnOf "awaits" "Operation.awaits" (defArgs sOA) (defBody sOA) (defScope sOA) .none kV_oa dc_oa pm_oa an_oa cd_oa ct_oa), sl_oa⟩)
    (cd_i_oa : codeIn K cd_oa "Operation.awaits" = true)
    (k_oa : keepIn K (.ref f_oa) = true)
    (a_ok : findIn K (.ref CO) "keep" = some (some (.ref f_ok)))
    (i_ok : isFn K (.ref f_ok) = true)
    (l_ok : K.lookup f_ok = some ⟨oc_ok, od_ok, .func (fnOf "keep" "Operation.keep" (defArgs sOK) (defBody sOK) (defScope sOK) .none kV_ok dc_ok pm_ok an_ok cd_ok ct_ok), sl_ok⟩)
    (cd_i_ok : codeIn K cd_ok "Operation.keep" = true)
    (k_ok : keepIn K (.ref f_ok) = true)
    (a_ot : findIn K (.ref CO) "tell_own_value" = some (some (.ref f_ot)))
    (i_ot : isFn K (.ref f_ot) = true)
    (l_ot : K.lookup f_ot = some ⟨oc_ot, od_ot, .func (fnOf "tell_own_value" "Operation.tell_own_value" (defArgs sOT) (defBody sOT) (defScope sOT) .none kV_ot dc_ot pm_ot an_ot cd_ot ct_ot), sl_ot⟩)
    (cd_i_ot : codeIn K cd_ot "Operation.tell_own_value" = true)
    (k_ot : keepIn K (.ref f_ot) = true)
    (a_om : findIn K (.ref CO) "go_on_from_most" = some (some (.ref f_om)))
    (i_om : isFn K (.ref f_om) = true)
    (l_om : K.lookup f_om = some ⟨oc_om, od_om, .func (fnOf "go_on_from_most" "Operation.go_on_from_most" (defArgs sOM) (defBody sOM) (defScope sOM) .none kV_om dc_om pm_om an_om cd_om ct_om), sl_om⟩)
    (cd_i_om : codeIn K cd_om "Operation.go_on_from_most" = true)
    (k_om : keepIn K (.ref f_om) = true)
    (a_ci : findIn K (.ref CC) "__init__" = some (some (.ref f_ci)))
    (i_ci : isFn K (.ref f_ci) = true)
    (l_ci : K.lookup f_ci = some ⟨oc_ci, od_ci, .func (fnOf "__init__" "Client.__init__" (defArgs sCI) (defBody sCI) (defScope sCI) .none kV_ci dc_ci pm_ci an_ci cd_ci ct_ci), sl_ci⟩)
    (cd_i_ci : codeIn K cd_ci "Client.__init__" = true)
    (k_ci : keepIn K (.ref f_ci) = true)
    (a_cs : findIn K (.ref CC) "qc_start" = some (some (.ref f_cs)))
    (i_cs : isFn K (.ref f_cs) = true)
    (l_cs : K.lookup f_cs = some ⟨oc_cs, od_cs, .func (fnOf "qc_start" "Client.qc_start" (defArgs sCS) (defBody sCS) (defScope sCS) .none kV_cs dc_cs pm_cs an_cs cd_cs ct_cs), sl_cs⟩)
    (cd_i_cs : codeIn K cd_cs "Client.qc_start" = true)
    (k_cs : keepIn K (.ref f_cs) = true)
    (a_cg : findIn K (.ref CC) "has_one_going_on" = some (some (.ref f_cg)))
    (i_cg : isFn K (.ref f_cg) = true)
    (l_cg : K.lookup f_cg = some ⟨oc_cg, od_cg, .func (fnOf "has_one_going_on" "Client.has_one_going_on" (defArgs sCG) (defBody sCG) (defScope sCG) .none kV_cg dc_cg pm_cg an_cg cd_cg ct_cg), sl_cg⟩)
    (cd_i_cg : codeIn K cd_cg "Client.has_one_going_on" = true)
    (k_cg : keepIn K (.ref f_cg) = true)
    (a_cb : findIn K (.ref CC) "begin" = some (some (.ref f_cb)))
    (i_cb : isFn K (.ref f_cb) = true)
    (l_cb : K.lookup f_cb = some ⟨oc_cb, od_cb, .func (fnOf "begin" "Client.begin" (defArgs sCB) (defBody sCB) (defScope sCB) .none kV_cb dc_cb pm_cb an_cb cd_cb ct_cb), sl_cb⟩)
    (cd_i_cb : codeIn K cd_cb "Client.begin" = true)
    (k_cb : keepIn K (.ref f_cb) = true)
    (a_cr : findIn K (.ref CC) "qc_read" = some (some (.ref f_cr)))
    (i_cr : isFn K (.ref f_cr) = true)
    (l_cr : K.lookup f_cr = some ⟨oc_cr, od_cr, .func (fnOf "qc_read" "Client.qc_read" (defArgs sCR) (defBody sCR) (defScope sCR) .none kV_cr dc_cr pm_cr an_cr cd_cr ct_cr), sl_cr⟩)
    (cd_i_cr : codeIn K cd_cr "Client.qc_read" = true)
    (k_cr : keepIn K (.ref f_cr) = true)
    (a_cw : findIn K (.ref CC) "qc_write" = some (some (.ref f_cw)))
    (i_cw : isFn K (.ref f_cw) = true)
    (l_cw : K.lookup f_cw = some ⟨oc_cw, od_cw, .func (fnOf "qc_write" "Client.qc_write" (defArgs sCW) (defBody sCW) (defScope sCW) .none kV_cw dc_cw pm_cw an_cw cd_cw ct_cw), sl_cw⟩)
    (cd_i_cw : codeIn K cd_cw "Client.qc_write" = true)
    (k_cw : keepIn K (.ref f_cw) = true)
    (a_ca : findIn K (.ref CC) "awaits" = some (some (.ref f_ca)))
    (i_ca : isFn K (.ref f_ca) = true)
    (l_ca : K.lookup f_ca = some ⟨oc_ca, od_ca, .func (fnOf "awaits" "Client.awaits" (defArgs sCA) (defBody sCA) (defScope sCA) .none kV_ca dc_ca pm_ca an_ca cd_ca ct_ca), sl_ca⟩)
    (cd_i_ca : codeIn K cd_ca "Client.awaits" = true)
    (k_ca : keepIn K (.ref f_ca) = true)
    (a_cy : findIn K (.ref CC) "qc_say" = some (some (.ref f_cy)))
    (i_cy : isFn K (.ref f_cy) = true)
    (l_cy : K.lookup f_cy = some ⟨oc_cy, od_cy, .func (fnOf "qc_say" "Client.qc_say" (defArgs sCY) (defBody sCY) (defScope sCY) .none kV_cy dc_cy pm_cy an_cy cd_cy ct_cy), sl_cy⟩)
    (cd_i_cy : codeIn K cd_cy "Client.qc_say" = true)
    (k_cy : keepIn K (.ref f_cy) = true)
    (a_ch : findIn K (.ref CC) "qc_heard" = some (some (.ref f_ch)))
    (i_ch : isFn K (.ref f_ch) = true)
    (l_ch : K.lookup f_ch = some ⟨oc_ch, od_ch, .func (fnOf "qc_heard" "Client.qc_heard" (defArgs sCH) (defBody sCH) (defScope sCH) .none kV_ch dc_ch pm_ch an_ch cd_ch ct_ch), sl_ch⟩)
    (cd_i_ch : codeIn K cd_ch "Client.qc_heard" = true)
    (k_ch : keepIn K (.ref f_ch) = true)
    (a_cd : findIn K (.ref CC) "qc_done" = some (some (.ref f_cd)))
    (i_cd : isFn K (.ref f_cd) = true)
    (l_cd : K.lookup f_cd = some ⟨oc_cd, od_cd, .func (fnOf "qc_done" "Client.qc_done" (defArgs sCD) (defBody sCD) (defScope sCD) .none kV_cd dc_cd pm_cd an_cd cd_cd ct_cd), sl_cd⟩)
    (cd_i_cd : codeIn K cd_cd "Client.qc_done" = true)
    (k_cd : keepIn K (.ref f_cd) = true)
    (a_ri : findIn K (.ref CR) "__init__" = some (some (.ref f_ri)))
    (i_ri : isFn K (.ref f_ri) = true)
    (l_ri : K.lookup f_ri = some ⟨oc_ri, od_ri, .func (fnOf "__init__" "Reader.__init__" (defArgs sRI) (defBody sRI) (defScope sRI) .none kV_ri dc_ri pm_ri an_ri cd_ri ct_ri), sl_ri⟩)
    (cd_i_ri : codeIn K cd_ri "Reader.__init__" = true)
    (k_ri : keepIn K (.ref f_ri) = true)
    (a_rm : findIn K (.ref CR) "has_more" = some (some (.ref f_rm)))
    (i_rm : isFn K (.ref f_rm) = true)
    (l_rm : K.lookup f_rm = some ⟨oc_rm, od_rm, .func (fnOf "has_more" "Reader.has_more" (defArgs sRM) (defBody sRM) (defScope sRM) .none kV_rm dc_rm pm_rm an_rm cd_rm ct_rm), sl_rm⟩)
    (cd_i_rm : codeIn K cd_rm "Reader.has_more" = true)
    (k_rm : keepIn K (.ref f_rm) = true)
    (a_rn : findIn K (.ref CR) "take_number" = some (some (.ref f_rn)))
    (i_rn : isFn K (.ref f_rn) = true)
    (l_rn : K.lookup f_rn = some ⟨oc_rn, od_rn, .func (fnOf "take_number" "Reader.take_number" (defArgs sRN) (defBody sRN) (defScope sRN) .none kV_rn dc_rn pm_rn an_rn cd_rn ct_rn), sl_rn⟩)
    (cd_i_rn : codeIn K cd_rn "Reader.take_number" = true)
    (k_rn : keepIn K (.ref f_rn) = true)
    (a_rr : findIn K (.ref CR) "take_row" = some (some (.ref f_rr)))
    (i_rr : isFn K (.ref f_rr) = true)
    (l_rr : K.lookup f_rr = some ⟨oc_rr, od_rr, .func (fnOf "take_row" "Reader.take_row" (defArgs sRR) (defBody sRR) (defScope sRR) .none kV_rr dc_rr pm_rr an_rr cd_rr ct_rr), sl_rr⟩)
    (cd_i_rr : codeIn K cd_rr "Reader.take_row" = true)
    (k_rr : keepIn K (.ref f_rr) = true)
    (a_ck : nsIn K mainGlobals "call_keeper" = some (some (.ref f_ck)))
    (l_ck : K.lookup f_ck = some ⟨oc_ck, od_ck, .func (fnOf "call_keeper" "call_keeper" (defArgs sCallK) (defBody sCallK) (defScope sCallK) .none kV_ck dc_ck pm_ck an_ck cd_ck ct_ck), sl_ck⟩)
    (cd_i_ck : codeIn K cd_ck "call_keeper" = true)
    (k_ck : keepIn K (.ref f_ck) = true)
    (a_cc : nsIn K mainGlobals "call_client" = some (some (.ref f_cc)))
    (l_cc : K.lookup f_cc = some ⟨oc_cc, od_cc, .func (fnOf "call_client" "call_client" (defArgs sCallC) (defBody sCallC) (defScope sCallC) .none kV_cc dc_cc pm_cc an_cc cd_cc ct_cc), sl_cc⟩)
    (cd_i_cc : codeIn K cd_cc "call_client" = true)
    (k_cc : keepIn K (.ref f_cc) = true)
    (a_next : nsIn K mainGlobals "answer_next_call" = some (some (.ref f_next)))
    (l_next : K.lookup f_next = some ⟨oc_next, od_next, .func (fnOf "answer_next_call" "answer_next_call" (defArgs sNext) (defBody sNext) (defScope sNext) .none kV_next dc_next pm_next an_next cd_next ct_next), sl_next⟩)
    (cd_i_next : codeIn K cd_next "answer_next_call" = true)
    (k_next : keepIn K (.ref f_next) = true)
    (a_ans : nsIn K mainGlobals "answers" = some (some (.ref f_ans)))
    (l_ans : K.lookup f_ans = some ⟨oc_ans, od_ans, .func (fnOf "answers" "answers" (defArgs sAns) (defBody sAns) (defScope sAns) .none kV_ans dc_ans pm_ans an_ans cd_ans ct_ans), sl_ans⟩)
    (cd_i_ans : codeIn K cd_ans "answers" = true)
    (k_ans : keepIn K (.ref f_ans) = true)
    : ∃ fd : FuncData, (∀ (s : Shared) (us : List Value), us.length = (["calls"] : List Str).length → BindsTo s fd ⟨us, []⟩ ((["calls"] : List Str).zip us)) ∧ ∀ base : Heap, K.In base → base.Ns mainGlobals mg → FnOk P w K mg base CX0 8 fa fd ["calls"] (spAns K) := by
  have e := hfa.symm.trans (PySem.W.mg_of X G a_ans)
  cases e
  generalize eA : (⟨CM, CO, CC, CK, CR⟩ : Ad) = A
  have eM : CM = A.M := by rw [← eA]
  have eO : CO = A.O := by rw [← eA]
  have eC : CC = A.C := by rw [← eA]
  have eK : CK = A.K := by rw [← eA]
  have eR : CR = A.R := by rw [← eA]
  clear eA
  subst eM eO eC eK eR
  have T : Txt K mg A := { range := PySem.W.mg_none_of X G b_range, len := PySem.W.mg_none_of X G b_len, POLY := ⟨_, PySem.W.mg_of X G c_POLY⟩, ONES := ⟨_, PySem.W.mg_of X G c_ONES⟩, ASK := ⟨_, PySem.W.mg_of X G c_ASK⟩, HOLDS := ⟨_, PySem.W.mg_of X G c_HOLDS⟩, TELL := ⟨_, PySem.W.mg_of X G c_TELL⟩, IS_HELD := ⟨_, PySem.W.mg_of X G c_IS_HELD⟩, GCLIENT := ⟨_, PySem.W.mg_of X G c_GCLIENT⟩, GKEEPER := ⟨_, PySem.W.mg_of X G c_GKEEPER⟩, GNUMBER := ⟨_, PySem.W.mg_of X G c_GNUMBER⟩, CHECK := ⟨_, PySem.W.mg_of X G c_CHECK⟩, NOTHING := ⟨_, PySem.W.mg_of X G c_NOTHING⟩, NOT_NOW := ⟨_, PySem.W.mg_of X G c_NOT_NOW⟩, GOES_ON := ⟨_, PySem.W.mg_of X G c_GOES_ON⟩, RANGE := ⟨_, PySem.W.mg_of X G c_RANGE⟩, USED_UP := ⟨_, PySem.W.mg_of X G c_USED_UP⟩, WRONG := ⟨_, PySem.W.mg_of X G c_WRONG⟩, COULD := ⟨_, PySem.W.mg_of X G c_COULD⟩, GCOUNT := ⟨_, PySem.W.mg_of X G c_GCOUNT⟩, GOP := ⟨_, PySem.W.mg_of X G c_GOP⟩, KEEPERS := ⟨_, PySem.W.mg_of X G c_KEEPERS⟩, CLIENTS := ⟨_, PySem.W.mg_of X G c_CLIENTS⟩, QK_START := ⟨_, PySem.W.mg_of X G c_QK_START⟩, QK_HEARD := ⟨_, PySem.W.mg_of X G c_QK_HEARD⟩, QC_START := ⟨_, PySem.W.mg_of X G c_QC_START⟩, QC_READ := ⟨_, PySem.W.mg_of X G c_QC_READ⟩, QC_WRITE := ⟨_, PySem.W.mg_of X G c_QC_WRITE⟩, QC_SAY := ⟨_, PySem.W.mg_of X G c_QC_SAY⟩, QC_HEARD := ⟨_, PySem.W.mg_of X G c_QC_HEARD⟩, QC_DONE := ⟨_, PySem.W.mg_of X G c_QC_DONE⟩, clM := ⟨pg_M, hd_M, po_M, sa_M⟩, Mkind := no_Mkind, Mclient := no_Mclient, Mkeeper := no_Mkeeper, Mop := no_Mop, Mstamp := no_Mstamp, Mvalue := no_Mvalue, clO := ⟨pg_O, hd_O, po_O, sa_O⟩, Oclient := no_Oclient, Oown := no_Oown, Oasking := no_Oasking, Oanswered := no_Oanswered, Ostamp := no_Ostamp, Ovalue := no_Ovalue, Odone := no_Odone, clC := ⟨pg_C, hd_C, po_C, sa_C⟩, Cme := no_Cme, Ckeepers := no_Ckeepers, Cbegun := no_Cbegun, Clast := no_Clast, clK := ⟨pg_K, hd_K, po_K, sa_K⟩, Kme := no_Kme, Kstamp := no_Kstamp, Kvalue := no_Kvalue, clR := ⟨pg_R, hd_R, po_R, sa_R⟩, Rcalls := no_Rcalls, Rat := no_Rat }
  have F_eight := fun_mk (st := sEight) l_eight cd_i_eight k_eight
  have b_eight := F_eight.binds (ps := ["rest"]) fun _ _ _ _ _ _ us hl => match us, hl with | [_], _ => rfl
  have F_crc := fun_mk (st := sCrc) l_crc cd_i_crc k_crc
  have b_crc := F_crc.binds (ps := ["row"]) fun _ _ _ _ _ _ us hl => match us, hl with | [_], _ => rfl
  have F_low := fun_mk (st := sLow) l_low cd_i_low k_low
  have b_low := F_low.binds (ps := ["number", "size"]) fun _ _ _ _ _ _ us hl => match us, hl with | [_, _], _ => rfl
  have F_num := fun_mk (st := sNum) l_num cd_i_num k_num
  have b_num := F_num.binds (ps := ["row", "at", "size"]) fun _ _ _ _ _ _ us hl => match us, hl with | [_, _, _], _ => rfl
  have F_mi := fun_mk (st := sMI) l_mi cd_i_mi k_mi
  have b_mi := F_mi.binds (ps := ["self", "kind", "client", "keeper", "operation", "stamp", "value"]) fun _ _ _ _ _ _ us hl => match us, hl with | [_, _, _, _, _, _, _], _ => rfl
  have F_bytes := fun_mk (st := sBytes) l_bytes cd_i_bytes k_bytes
  have b_bytes := F_bytes.binds (ps := ["message"]) fun _ _ _ _ _ _ us hl => match us, hl with | [_], _ => rfl
  have F_isq := fun_mk (st := sIsQ) l_isq cd_i_isq k_isq
  have b_isq := F_isq.binds (ps := ["message"]) fun _ _ _ _ _ _ us hl => match us, hl with | [_], _ => rfl
  have F_within := fun_mk (st := sWithin) l_within cd_i_within k_within
  have b_within := F_within.binds (ps := ["message"]) fun _ _ _ _ _ _ us hl => match us, hl with | [_], _ => rfl
  have F_zeros := fun_mk (st := sZeros) l_zeros cd_i_zeros k_zeros
  have b_zeros := F_zeros.binds (ps := ["message"]) fun _ _ _ _ _ _ us hl => match us, hl with | [_], _ => rfl
  have F_right := fun_mk (st := sRight) l_right cd_i_right k_right
  have b_right := F_right.binds (ps := ["row"]) fun _ _ _ _ _ _ us hl => match us, hl with | [_], _ => rfl
  have F_ki := fun_mk (st := sKI) l_ki cd_i_ki k_ki
  have b_ki := F_ki.binds (ps := ["self"]) fun _ _ _ _ _ _ us hl => match us, hl with | [_], _ => rfl
  have F_ks := fun_mk (st := sKS) l_ks cd_i_ks k_ks
  have b_ks := F_ks.binds (ps := ["self", "me"]) fun _ _ _ _ _ _ us hl => match us, hl with | [_, _], _ => rfl
  have F_ko := fun_mk (st := sKO) l_ko cd_i_ko k_ko
  have b_ko := F_ko.binds (ps := ["self", "stamp", "value"]) fun _ _ _ _ _ _ us hl => match us, hl with | [_, _, _], _ => rfl
  have F_kh := fun_mk (st := sKH) l_kh cd_i_kh k_kh
  have b_kh := F_kh.binds (ps := ["self", "question"]) fun _ _ _ _ _ _ us hl => match us, hl with | [_, _], _ => rfl
  have F_oi := fun_mk (st := sOI) l_oi cd_i_oi k_oi
  have b_oi := F_oi.binds (ps := ["self", "client", "own_value"]) fun _ _ _ _ _ _ us hl => match us, hl with | [_, _, _], _ => rfl
  have F_og := fun_mk (st := sOG) l_og cd_i_og k_og
  have b_og := F_og.binds (ps := ["self"]) fun _ _ _ _ _ _ us hl => match us, hl with | [_], _ => rfl
  have F_oa := fun_mk (st := sOA) l_oa cd_i_oa k_oa
  have b_oa := F_oa.binds (ps := ["self", "kind", "keeper"]) fun _ _ _ _ _ _ us hl => match us, hl with | [_, _, _], _ => rfl
  have F_ok := fun_mk (st := sOK) l_ok cd_i_ok k_ok
  have b_ok := F_ok.binds (ps := ["self", "answer"]) fun _ _ _ _ _ _ us hl => match us, hl with | [_, _], _ => rfl
  have F_ot := fun_mk (st := sOT) l_ot cd_i_ot k_ot
  have b_ot := F_ot.binds (ps := ["self"]) fun _ _ _ _ _ _ us hl => match us, hl with | [_], _ => rfl
  have F_om := fun_mk (st := sOM) l_om cd_i_om k_om
  have b_om := F_om.binds (ps := ["self"]) fun _ _ _ _ _ _ us hl => match us, hl with | [_], _ => rfl
  have F_ci := fun_mk (st := sCI) l_ci cd_i_ci k_ci
  have b_ci := F_ci.binds (ps := ["self"]) fun _ _ _ _ _ _ us hl => match us, hl with | [_], _ => rfl
  have F_cs := fun_mk (st := sCS) l_cs cd_i_cs k_cs
  have b_cs := F_cs.binds (ps := ["self", "me", "keepers"]) fun _ _ _ _ _ _ us hl => match us, hl with | [_, _, _], _ => rfl
  have F_cg := fun_mk (st := sCG) l_cg cd_i_cg k_cg
  have b_cg := F_cg.binds (ps := ["self"]) fun _ _ _ _ _ _ us hl => match us, hl with | [_], _ => rfl
  have F_cb := fun_mk (st := sCB) l_cb cd_i_cb k_cb
  have b_cb := F_cb.binds (ps := ["self", "own_value"]) fun _ _ _ _ _ _ us hl => match us, hl with | [_, _], _ => rfl
  have F_cr := fun_mk (st := sCR) l_cr cd_i_cr k_cr
  have b_cr := F_cr.binds (ps := ["self"]) fun _ _ _ _ _ _ us hl => match us, hl with | [_], _ => rfl
  have F_cw := fun_mk (st := sCW) l_cw cd_i_cw k_cw
  have b_cw := F_cw.binds (ps := ["self", "value"]) fun _ _ _ _ _ _ us hl => match us, hl with | [_, _], _ => rfl
  have F_ca := fun_mk (st := sCA) l_ca cd_i_ca k_ca
  have b_ca := F_ca.binds (ps := ["self", "heard"]) fun _ _ _ _ _ _ us hl => match us, hl with | [_, _], _ => rfl
  have F_cy := fun_mk (st := sCY) l_cy cd_i_cy k_cy
  have b_cy := F_cy.binds (ps := ["self"]) fun _ _ _ _ _ _ us hl => match us, hl with | [_], _ => rfl
  have F_ch := fun_mk (st := sCH) l_ch cd_i_ch k_ch
  have b_ch := F_ch.binds (ps := ["self", "answer"]) fun _ _ _ _ _ _ us hl => match us, hl with | [_, _], _ => rfl
  have F_cd := fun_mk (st := sCD) l_cd cd_i_cd k_cd
  have b_cd := F_cd.binds (ps := ["self"]) fun _ _ _ _ _ _ us hl => match us, hl with | [_], _ => rfl
  have F_ri := fun_mk (st := sRI) l_ri cd_i_ri k_ri
  have b_ri := F_ri.binds (ps := ["self", "calls"]) fun _ _ _ _ _ _ us hl => match us, hl with | [_, _], _ => rfl
  have F_rm := fun_mk (st := sRM) l_rm cd_i_rm k_rm
  have b_rm := F_rm.binds (ps := ["self"]) fun _ _ _ _ _ _ us hl => match us, hl with | [_], _ => rfl
  have F_rn := fun_mk (st := sRN) l_rn cd_i_rn k_rn
  have b_rn := F_rn.binds (ps := ["self"]) fun _ _ _ _ _ _ us hl => match us, hl with | [_], _ => rfl
  have F_rr := fun_mk (st := sRR) l_rr cd_i_rr k_rr
  have b_rr := F_rr.binds (ps := ["self"]) fun _ _ _ _ _ _ us hl => match us, hl with | [_], _ => rfl
  have F_ck := fun_mk (st := sCallK) l_ck cd_i_ck k_ck
  have b_ck := F_ck.binds (ps := ["keeper", "number", "reader"]) fun _ _ _ _ _ _ us hl => match us, hl with | [_, _, _], _ => rfl
  have F_cc := fun_mk (st := sCallC) l_cc cd_i_cc k_cc
  have b_cc := F_cc.binds (ps := ["client", "number", "reader"]) fun _ _ _ _ _ _ us hl => match us, hl with | [_, _, _], _ => rfl
  have F_next := fun_mk (st := sNext) l_next cd_i_next k_next
  have b_next := F_next.binds (ps := ["reader", "keepers", "clients"]) fun _ _ _ _ _ _ us hl => match us, hl with | [_, _, _], _ => rfl
  have F_ans := fun_mk (st := sAns) l_ans cd_i_ans k_ans
  have b_ans := F_ans.binds (ps := ["calls"]) fun _ _ _ _ _ _ us hl => match us, hl with | [_], _ => rfl
  refine ⟨fnOf "answers" "answers" (defArgs sAns) (defBody sAns) (defScope sAns) .none kV_ans dc_ans pm_ans an_ans cd_ans ct_ans, fun s us hu => match us, hu with | [_], _ => .of_eq rfl, fun base _ _ => ?_⟩
  have g_eight : GDef P w K mg base "eight_steps" 1 ["rest"] spEight := ⟨_, _, ok_eight F_eight T, PySem.W.mg_of X G a_eight, k_eight, b_eight⟩
  have g_crc : GDef P w K mg base "crc32c" 2 ["row"] (spCrc K) := ⟨_, _, ok_crc F_crc T g_eight, PySem.W.mg_of X G a_crc, k_crc, b_crc⟩
  have g_low : GDef P w K mg base "low_first" 1 ["number", "size"] spLow := ⟨_, _, ok_low F_low T, PySem.W.mg_of X G a_low, k_low, b_low⟩
  have g_num : GDef P w K mg base "number_at" 1 ["row", "at", "size"] (spNum K) := ⟨_, _, ok_num F_num T, PySem.W.mg_of X G a_num, k_num, b_num⟩
  have g_mi : CDef P w K mg base A.M "Message" 1 ["self", "kind", "client", "keeper", "operation", "stamp", "value"] (spMI A.M) := ⟨PySem.W.mg_of X G n_M, _, _, ok_mi F_mi T, ⟨mk_M, a_mi, i_mi, kc_M⟩, b_mi⟩
  have g_bytes : GDef P w K mg base "bytes_of" 3 ["message"] (spBytes A.M) := ⟨_, _, ok_bytes F_bytes T g_low g_crc, PySem.W.mg_of X G a_bytes, k_bytes, b_bytes⟩
  have g_isq : GDef P w K mg base "is_question" 1 ["message"] (spTest A.M Mr.isQ) := ⟨_, _, ok_isQ F_isq T, PySem.W.mg_of X G a_isq, k_isq, b_isq⟩
  have g_within : GDef P w K mg base "is_within_bounds" 1 ["message"] (spTest A.M Mr.within) := ⟨_, _, ok_within F_within T, PySem.W.mg_of X G a_within, k_within, b_within⟩
  have g_zeros : GDef P w K mg base "has_its_zeros" 2 ["message"] (spTest A.M Mr.zeros) := ⟨_, _, ok_zeros F_zeros T g_isq, PySem.W.mg_of X G a_zeros, k_zeros, b_zeros⟩
  have g_right : GDef P w K mg base "right_message" 4 ["row"] (spRight K A.M) := ⟨_, _, ok_right F_right T g_num g_crc g_mi g_within g_zeros, PySem.W.mg_of X G a_right, k_right, b_right⟩
  have g_ki : CDef P w K mg base A.K "Keeper" 1 ["self"] (spKI A.K) := ⟨PySem.W.mg_of X G n_K, _, _, ok_ki F_ki T, ⟨mk_K, a_ki, i_ki, kc_K⟩, b_ki⟩
  have g_ks : MDef P w K mg base A.K "qk_start" 1 ["self", "me"] (spKS A.K) := ⟨_, _, ok_ks F_ks T, ⟨a_ks, i_ks, k_ks⟩, b_ks⟩
  have g_ko : MDef P w K mg base A.K "hold" 1 ["self", "stamp", "value"] (spKO A.K) := ⟨_, _, ok_ko F_ko T, ⟨a_ko, i_ko, k_ko⟩, b_ko⟩
  have g_kh : MDef P w K mg base A.K "qk_heard" 5 ["self", "question"] (spKH K A.K) := ⟨_, _, ok_kh F_kh T g_right g_isq g_mi g_ko g_bytes, ⟨a_kh, i_kh, k_kh⟩, b_kh⟩
  have g_oi : CDef P w K mg base A.O "Operation" 1 ["self", "client", "own_value"] (spOI A.O) := ⟨PySem.W.mg_of X G n_O, _, _, ok_oi F_oi T, ⟨mk_O, a_oi, i_oi, kc_O⟩, b_oi⟩
  have g_og : MDef P w K mg base A.O "goes_on" 1 ["self"] (spOG A.O) := ⟨_, _, ok_og F_og T, ⟨a_og, i_og, k_og⟩, b_og⟩
  have g_oa : MDef P w K mg base A.O "awaits" 1 ["self", "kind", "keeper"] (spOA A.O) := ⟨_, _, ok_oa F_oa T, ⟨a_oa, i_oa, k_oa⟩, b_oa⟩
  have g_ok : MDef P w K mg base A.O "keep" 1 ["self", "answer"] (spOK A.O A.M) := ⟨_, _, ok_ok F_ok T, ⟨a_ok, i_ok, k_ok⟩, b_ok⟩
  have g_ot : MDef P w K mg base A.O "tell_own_value" 1 ["self"] (spOT A.O) := ⟨_, _, ok_ot F_ot T, ⟨a_ot, i_ot, k_ot⟩, b_ot⟩
  have g_om : MDef P w K mg base A.O "go_on_from_most" 2 ["self"] (spOM A.O) := ⟨_, _, ok_om F_om T g_ot, ⟨a_om, i_om, k_om⟩, b_om⟩
  have g_ci : CDef P w K mg base A.C "Client" 1 ["self"] (spCI A.C A.O) := ⟨PySem.W.mg_of X G n_C, _, _, ok_ci F_ci T, ⟨mk_C, a_ci, i_ci, kc_C⟩, b_ci⟩
  have g_cs : MDef P w K mg base A.C "qc_start" 1 ["self", "me", "keepers"] (spCS A.C A.O) := ⟨_, _, ok_cs F_cs T, ⟨a_cs, i_cs, k_cs⟩, b_cs⟩
  have g_cg : MDef P w K mg base A.C "has_one_going_on" 2 ["self"] (spCG A.C A.O) := ⟨_, _, ok_cg F_cg T g_og, ⟨a_cg, i_cg, k_cg⟩, b_cg⟩
  have g_cb : MDef P w K mg base A.C "begin" 4 ["self", "own_value"] (spCB A.C A.O) := ⟨_, _, ok_cb F_cb T g_cg g_oi, ⟨a_cb, i_cb, k_cb⟩, b_cb⟩
  have g_cr : MDef P w K mg base A.C "qc_read" 5 ["self"] (spCR A.C A.O) := ⟨_, _, ok_cr F_cr T g_cb, ⟨a_cr, i_cr, k_cr⟩, b_cr⟩
  have g_cw : MDef P w K mg base A.C "qc_write" 5 ["self", "value"] (spCW A.C A.O) := ⟨_, _, ok_cw F_cw T g_cb, ⟨a_cw, i_cw, k_cw⟩, b_cw⟩
  have g_ca : MDef P w K mg base A.C "awaits" 3 ["self", "heard"] (spCA A.C A.O A.M) := ⟨_, _, ok_ca F_ca T g_cg g_oa, ⟨a_ca, i_ca, k_ca⟩, b_ca⟩
  have g_cy : MDef P w K mg base A.C "qc_say" 5 ["self"] (spCY A.C A.O) := ⟨_, _, ok_cy F_cy T g_cg g_mi g_bytes, ⟨a_cy, i_cy, k_cy⟩, b_cy⟩
  have g_ch : MDef P w K mg base A.C "qc_heard" 5 ["self", "answer"] (spCH K A.C A.O) := ⟨_, _, ok_ch F_ch T g_right g_ca g_ok g_om, ⟨a_ch, i_ch, k_ch⟩, b_ch⟩
  have g_cd : MDef P w K mg base A.C "qc_done" 2 ["self"] (spCD A.C A.O) := ⟨_, _, ok_cd F_cd T g_og, ⟨a_cd, i_cd, k_cd⟩, b_cd⟩
  have g_ri : CDef P w K mg base A.R "Reader" 1 ["self", "calls"] (spRI A.R) := ⟨PySem.W.mg_of X G n_R, _, _, ok_ri F_ri T, ⟨mk_R, a_ri, i_ri, kc_R⟩, b_ri⟩
  have g_rm : MDef P w K mg base A.R "has_more" 1 ["self"] (spRM K A.R) := ⟨_, _, ok_rm F_rm T, ⟨a_rm, i_rm, k_rm⟩, b_rm⟩
  have g_rn : MDef P w K mg base A.R "take_number" 1 ["self"] (spRN K A.R) := ⟨_, _, ok_rn F_rn T, ⟨a_rn, i_rn, k_rn⟩, b_rn⟩
  have g_rr : MDef P w K mg base A.R "take_row" 2 ["self"] (spRR K A.R) := ⟨_, _, ok_rr F_rr T g_rn, ⟨a_rr, i_rr, k_rr⟩, b_rr⟩
  have g_ck : GDef P w K mg base "call_keeper" 6 ["keeper", "number", "reader"] (spCK K A) := ⟨_, _, ok_ck F_ck T g_ks g_kh g_rn g_rr, PySem.W.mg_of X G a_ck, k_ck, b_ck⟩
  have g_cc : GDef P w K mg base "call_client" 6 ["client", "number", "reader"] (spCC K A) := ⟨_, _, ok_cc F_cc T g_cs g_cr g_cw g_cy g_ch g_cd g_rn g_rr, PySem.W.mg_of X G a_cc, k_cc, b_cc⟩
  have g_next : GDef P w K mg base "answer_next_call" 7 ["reader", "keepers", "clients"] (spNext K A) := ⟨_, _, ok_next F_next T g_rn g_ck g_cc, PySem.W.mg_of X G a_next, k_next, b_next⟩
  exact ok_ans F_ans T g_ki g_ci g_ri g_rm g_next
end
end Pf

open PySem PySem.W PyProof.Rows
set_option maxRecDepth 100000 in
set_option maxHeartbeats 0 in
theorem PySem.Challenge.cw_mostcell_s01_answers_holds : PySem.Challenge.rw_mostcell_s01_answers.Holds := by
  w_on; k_headS; (case hw => exact ⟨[.list [.int 0, .int 0, .int 0]], by decide +kernel, by decide +kernel⟩)
  k_fillS
  refine L2.walk_specK (r := PySem.Challenge.rw_mostcell_s01_answers) (k := 8) (CX := L2.CX0) (ps := ["calls"]) (sp := Pf.spAns) (by decide +kernel) rfl rfl ⟨rfl, by decide, by decide⟩ (fun w h Y => PySem.W.kIn_of Y) ?F ?S (fun _ _ _ _ z => z)
  case F =>
    intro w mg fa h Y KX G hmg
    refine' Pf.all_mk KX G hmg ?b_range ?b_len ?c_POLY ?c_ONES ?c_ASK ?c_HOLDS ?c_TELL ?c_IS_HELD ?c_GCLIENT ?c_GKEEPER ?c_GNUMBER ?c_CHECK ?c_NOTHING ?c_NOT_NOW ?c_GOES_ON ?c_RANGE ?c_USED_UP ?c_WRONG ?c_COULD ?c_GCOUNT ?c_GOP ?c_KEEPERS ?c_CLIENTS ?c_QK_START ?c_QK_HEARD ?c_QC_START ?c_QC_READ ?c_QC_WRITE ?c_QC_SAY ?c_QC_HEARD ?c_QC_DONE ?n_M ?pg_M ?hd_M ?po_M ?sa_M ?mk_M ?kc_M ?no_Mkind ?no_Mclient ?no_Mkeeper ?no_Mop ?no_Mstamp ?no_Mvalue ?n_O ?pg_O ?hd_O ?po_O ?sa_O ?mk_O ?kc_O ?no_Oclient ?no_Oown ?no_Oasking ?no_Oanswered ?no_Ostamp ?no_Ovalue ?no_Odone ?n_C ?pg_C ?hd_C ?po_C ?sa_C ?mk_C ?kc_C ?no_Cme ?no_Ckeepers ?no_Cbegun ?no_Clast ?n_K ?pg_K ?hd_K ?po_K ?sa_K ?mk_K ?kc_K ?no_Kme ?no_Kstamp ?no_Kvalue ?n_R ?pg_R ?hd_R ?po_R ?sa_R ?mk_R ?kc_R ?no_Rcalls ?no_Rat ?a_eight ?l_eight ?cd_i_eight ?k_eight ?a_crc ?l_crc ?cd_i_crc ?k_crc ?a_low ?l_low ?cd_i_low ?k_low ?a_num ?l_num ?cd_i_num ?k_num ?a_mi ?i_mi ?l_mi ?cd_i_mi ?k_mi ?a_bytes ?l_bytes ?cd_i_bytes ?k_bytes ?a_isq ?l_isq ?cd_i_isq ?k_isq ?a_within ?l_within ?cd_i_within ?k_within ?a_zeros ?l_zeros ?cd_i_zeros ?k_zeros ?a_right ?l_right ?cd_i_right ?k_right ?a_ki ?i_ki ?l_ki ?cd_i_ki ?k_ki ?a_ks ?i_ks ?l_ks ?cd_i_ks ?k_ks ?a_ko ?i_ko ?l_ko ?cd_i_ko ?k_ko ?a_kh ?i_kh ?l_kh ?cd_i_kh ?k_kh ?a_oi ?i_oi ?l_oi ?cd_i_oi ?k_oi ?a_og ?i_og ?l_og ?cd_i_og ?k_og ?a_oa ?i_oa ?l_oa ?cd_i_oa ?k_oa ?a_ok ?i_ok ?l_ok ?cd_i_ok ?k_ok ?a_ot ?i_ot ?l_ot ?cd_i_ot ?k_ot ?a_om ?i_om ?l_om ?cd_i_om ?k_om ?a_ci ?i_ci ?l_ci ?cd_i_ci ?k_ci ?a_cs ?i_cs ?l_cs ?cd_i_cs ?k_cs ?a_cg ?i_cg ?l_cg ?cd_i_cg ?k_cg ?a_cb ?i_cb ?l_cb ?cd_i_cb ?k_cb ?a_cr ?i_cr ?l_cr ?cd_i_cr ?k_cr ?a_cw ?i_cw ?l_cw ?cd_i_cw ?k_cw ?a_ca ?i_ca ?l_ca ?cd_i_ca ?k_ca ?a_cy ?i_cy ?l_cy ?cd_i_cy ?k_cy ?a_ch ?i_ch ?l_ch ?cd_i_ch ?k_ch ?a_cd ?i_cd ?l_cd ?cd_i_cd ?k_cd ?a_ri ?i_ri ?l_ri ?cd_i_ri ?k_ri ?a_rm ?i_rm ?l_rm ?cd_i_rm ?k_rm ?a_rn ?i_rn ?l_rn ?cd_i_rn ?k_rn ?a_rr ?i_rr ?l_rr ?cd_i_rr ?k_rr ?a_ck ?l_ck ?cd_i_ck ?k_ck ?a_cc ?l_cc ?cd_i_cc ?k_cc ?a_next ?l_next ?cd_i_next ?k_next ?a_ans ?l_ans ?cd_i_ans ?k_ans
    (case b_range => k_is); (case b_len => k_is); (case c_POLY => k_is); (case c_ONES => k_is); (case c_ASK => k_is); (case c_HOLDS => k_is)
    (case c_TELL => k_is); (case c_IS_HELD => k_is); (case c_GCLIENT => k_is); (case c_GKEEPER => k_is); (case c_GNUMBER => k_is); (case c_CHECK => k_is)
    (case c_NOTHING => k_is); (case c_NOT_NOW => k_is); (case c_GOES_ON => k_is); (case c_RANGE => k_is); (case c_USED_UP => k_is); (case c_WRONG => k_is)
    (case c_COULD => k_is); (case c_GCOUNT => k_is); (case c_GOP => k_is); (case c_KEEPERS => k_is); (case c_CLIENTS => k_is); (case c_QK_START => k_is)
    (case c_QK_HEARD => k_is); (case c_QC_START => k_is); (case c_QC_READ => k_is); (case c_QC_WRITE => k_is); (case c_QC_SAY => k_is); (case c_QC_HEARD => k_is)
    (case c_QC_DONE => k_is); (case n_M => k_is); (case pg_M => k_is); (case hd_M => k_is); (case po_M => k_is); (case sa_M => k_is)
    (case mk_M => k_is); (case kc_M => k_is); (case no_Mkind => k_is); (case no_Mclient => k_is); (case no_Mkeeper => k_is); (case no_Mop => k_is)
    (case no_Mstamp => k_is); (case no_Mvalue => k_is); (case n_O => k_is); (case pg_O => k_is); (case hd_O => k_is); (case po_O => k_is)
    (case sa_O => k_is); (case mk_O => k_is); (case kc_O => k_is); (case no_Oclient => k_is); (case no_Oown => k_is); (case no_Oasking => k_is)
    (case no_Oanswered => k_is); (case no_Ostamp => k_is); (case no_Ovalue => k_is); (case no_Odone => k_is); (case n_C => k_is); (case pg_C => k_is)
    (case hd_C => k_is); (case po_C => k_is); (case sa_C => k_is); (case mk_C => k_is); (case kc_C => k_is); (case no_Cme => k_is)
    (case no_Ckeepers => k_is); (case no_Cbegun => k_is); (case no_Clast => k_is); (case n_K => k_is); (case pg_K => k_is); (case hd_K => k_is)
    (case po_K => k_is); (case sa_K => k_is); (case mk_K => k_is); (case kc_K => k_is); (case no_Kme => k_is); (case no_Kstamp => k_is)
    (case no_Kvalue => k_is); (case n_R => k_is); (case pg_R => k_is); (case hd_R => k_is); (case po_R => k_is); (case sa_R => k_is)
    (case mk_R => k_is); (case kc_R => k_is); (case no_Rcalls => k_is); (case no_Rat => k_is); (case a_eight => k_is); (case l_eight => k_is)
    (case cd_i_eight => k_is); (case k_eight => k_is); (case a_crc => k_is); (case l_crc => k_is); (case cd_i_crc => k_is); (case k_crc => k_is)
    (case a_low => k_is); (case l_low => k_is); (case cd_i_low => k_is); (case k_low => k_is); (case a_num => k_is); (case l_num => k_is)
    (case cd_i_num => k_is); (case k_num => k_is); (case a_mi => k_is); (case i_mi => k_is); (case l_mi => k_is); (case cd_i_mi => k_is)
    (case k_mi => k_is); (case a_bytes => k_is); (case l_bytes => k_is); (case cd_i_bytes => k_is); (case k_bytes => k_is); (case a_isq => k_is)
    (case l_isq => k_is); (case cd_i_isq => k_is); (case k_isq => k_is); (case a_within => k_is); (case l_within => k_is); (case cd_i_within => k_is)
    (case k_within => k_is); (case a_zeros => k_is); (case l_zeros => k_is); (case cd_i_zeros => k_is); (case k_zeros => k_is); (case a_right => k_is)
    (case l_right => k_is); (case cd_i_right => k_is); (case k_right => k_is); (case a_ki => k_is); (case i_ki => k_is); (case l_ki => k_is)
    (case cd_i_ki => k_is); (case k_ki => k_is); (case a_ks => k_is); (case i_ks => k_is); (case l_ks => k_is); (case cd_i_ks => k_is)
    (case k_ks => k_is); (case a_ko => k_is); (case i_ko => k_is); (case l_ko => k_is); (case cd_i_ko => k_is); (case k_ko => k_is)
    (case a_kh => k_is); (case i_kh => k_is); (case l_kh => k_is); (case cd_i_kh => k_is); (case k_kh => k_is); (case a_oi => k_is)
    (case i_oi => k_is); (case l_oi => k_is); (case cd_i_oi => k_is); (case k_oi => k_is); (case a_og => k_is); (case i_og => k_is)
    (case l_og => k_is); (case cd_i_og => k_is); (case k_og => k_is); (case a_oa => k_is); (case i_oa => k_is); (case l_oa => k_is)
    (case cd_i_oa => k_is); (case k_oa => k_is); (case a_ok => k_is); (case i_ok => k_is); (case l_ok => k_is); (case cd_i_ok => k_is)
    (case k_ok => k_is); (case a_ot => k_is); (case i_ot => k_is); (case l_ot => k_is); (case cd_i_ot => k_is); (case k_ot => k_is)
    (case a_om => k_is); (case i_om => k_is); (case l_om => k_is); (case cd_i_om => k_is); (case k_om => k_is); (case a_ci => k_is)
    (case i_ci => k_is); (case l_ci => k_is); (case cd_i_ci => k_is); (case k_ci => k_is); (case a_cs => k_is); (case i_cs => k_is)
    (case l_cs => k_is); (case cd_i_cs => k_is); (case k_cs => k_is); (case a_cg => k_is); (case i_cg => k_is); (case l_cg => k_is)
    (case cd_i_cg => k_is); (case k_cg => k_is); (case a_cb => k_is); (case i_cb => k_is); (case l_cb => k_is); (case cd_i_cb => k_is)
    (case k_cb => k_is); (case a_cr => k_is); (case i_cr => k_is); (case l_cr => k_is); (case cd_i_cr => k_is); (case k_cr => k_is)
    (case a_cw => k_is); (case i_cw => k_is); (case l_cw => k_is); (case cd_i_cw => k_is); (case k_cw => k_is); (case a_ca => k_is)
    (case i_ca => k_is); (case l_ca => k_is); (case cd_i_ca => k_is); (case k_ca => k_is); (case a_cy => k_is); (case i_cy => k_is)
    (case l_cy => k_is); (case cd_i_cy => k_is); (case k_cy => k_is); (case a_ch => k_is); (case i_ch => k_is); (case l_ch => k_is)
    (case cd_i_ch => k_is); (case k_ch => k_is); (case a_cd => k_is); (case i_cd => k_is); (case l_cd => k_is); (case cd_i_cd => k_is)
    (case k_cd => k_is); (case a_ri => k_is); (case i_ri => k_is); (case l_ri => k_is); (case cd_i_ri => k_is); (case k_ri => k_is)
    (case a_rm => k_is); (case i_rm => k_is); (case l_rm => k_is); (case cd_i_rm => k_is); (case k_rm => k_is); (case a_rn => k_is)
    (case i_rn => k_is); (case l_rn => k_is); (case cd_i_rn => k_is); (case k_rn => k_is); (case a_rr => k_is); (case i_rr => k_is)
    (case l_rr => k_is); (case cd_i_rr => k_is); (case k_rr => k_is); (case a_ck => k_is); (case l_ck => k_is); (case cd_i_ck => k_is)
    (case k_ck => k_is); (case a_cc => k_is); (case l_cc => k_is); (case cd_i_cc => k_is); (case k_cc => k_is); (case a_next => k_is)
    (case l_next => k_is); (case cd_i_next => k_is); (case k_next => k_is); (case a_ans => k_is); (case l_ans => k_is); (case cd_i_ans => k_is)
    (case k_ans => k_is)
  case S =>
    intro K H xs a hO hwi hask hx
    cases hx with
    | cons h1 h2 =>
      cases h2
      cases h1 with
      | lst hs ha =>
        have e := L2.ints_dw a.1 _ ha
        subst e
        exact ⟨_, a.1, rfl, hs, hask, fun H' p hp => .lst (L2.SqL.of hp) (L2.dw_ints _)⟩
#print axioms PySem.Challenge.cw_mostcell_s01_answers_holds

