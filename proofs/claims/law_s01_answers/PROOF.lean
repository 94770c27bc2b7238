import PyProof.Rows.All
import Wide.All
import OpenK.AllK
import Wide.FinOn
import PyProof.EqAt
import PyProof.EqKinds
import PyProof.TupleCall
import KE.BitLaws
import KE.OsGo
import Open.SpecLaws
import PySem.Challenge.RW_idlehosts_s01_answers
set_option Elab.async false
set_option linter.all false
set_option maxRecDepth 100000
namespace My
open Sa77
abbrev byL := Sa77Neutral.ints
theorem le4 (k : Nat) : byL (le 4 k) = [(k : Int) % 256, (k : Int) / 256 % 256, (k : Int) / 65536 % 256, (k : Int) / 16777216 % 256] := by
  have e : le 4 k = [k / 1 % 256, k / 256 % 256, k / 65536 % 256, k / 16777216 % 256] := rfl
  rw [e]
  simp only [byL, Sa77Neutral.ints, List.map_cons, List.map_nil]
  congr 1
  · omega
theorem le4z {z : Int} (h : 0 ≤ z) : byL (le 4 z.toNat) = [z % 256, z / 256 % 256, z / 65536 % 256, z / 16777216 % 256] := by
  rw [le4, Int.toNat_of_nonneg h]
theorem natOf4 (a b c d : Nat) : natOf [a, b, c, d] = a + b * 256 + c * 65536 + d * 16777216 := by
  simp only [natOf, List.foldr_cons, List.foldr_nil]; omega
theorem wrap_mod (z : Int) : wrap z % 4294967296 = z % 4294967296 := by
  unfold wrap; omega
theorem wrap_zero (z : Int) : wrap z = 0 ↔ z % 4294967296 = 0 := by
  unfold wrap; omega
def blB (n : Nat) (l : List Nat) : List Bool := (List.range n).map fun k => l.contains k
theorem blB_len (n : Nat) (l : List Nat) : (blB n l).length = n := by simp [blB]
theorem blB_get {n : Nat} (l : List Nat) {k : Nat} (h : k < n) : (blB n l)[k]? = some (l.contains k) := by
  simp [blB, h]
theorem blB_nil (n : Nat) : blB n [] = (List.range n).map fun _ => false := by simp [blB]
theorem blB_add {n : Nat} (l : List Nat) {k : Nat} (h : k < n) : blB n (l ++ [k]) = (blB n l).set k true := by
  apply List.ext_getElem?
  intro i
  by_cases hi : i < n
  · rw [blB_get _ hi, List.getElem?_set]
    by_cases e : k = i
    · subst e; simp [blB_len, h]
    · rw [if_neg e, blB_get _ hi]; simp [Ne.symm e, eq_comm]
  · rw [List.getElem?_eq_none (by rw [blB_len]; omega), List.getElem?_eq_none (by rw [List.length_set, blB_len]; omega)]
theorem contains_filter_ne (l : List Nat) (k i : Nat) : (l.filter fun x => x != k).contains i = (l.contains i && (i != k)) := by
  rw [Bool.eq_iff_iff]
  simp only [List.contains_eq_mem, List.mem_filter, decide_eq_true_eq, Bool.and_eq_true, bne_iff_ne]
theorem blB_del {n : Nat} (l : List Nat) (k : Nat) : blB n (l.filter fun x => x != k) = (blB n l).set k false := by
  apply List.ext_getElem?
  intro i
  by_cases hi : i < n
  · rw [blB_get _ hi, List.getElem?_set]
    by_cases e : k = i
    · subst e
      rw [if_pos rfl, if_pos (by rw [blB_len]; exact hi), contains_filter_ne]; simp
    · rw [if_neg e, blB_get _ hi, contains_filter_ne]
      have : (i != k) = true := by simp [bne_iff_ne]; exact fun h => e h.symm
      rw [this, Bool.and_true]
  · rw [List.getElem?_eq_none (by rw [blB_len]; omega), List.getElem?_eq_none (by rw [List.length_set, blB_len]; omega)]
theorem blB_same {n : Nat} (l : List Nat) {k : Nat} (h : l.contains k = true) : (blB n l).set k true = blB n l := by
  apply List.ext_getElem?
  intro i
  rw [List.getElem?_set]
  by_cases e : k = i
  · subst e
    by_cases hk : k < n
    · rw [if_pos rfl, if_pos (by rw [blB_len]; exact hk), blB_get _ hk, h]
    · rw [if_pos rfl, if_neg (by rw [blB_len]; exact hk), List.getElem?_eq_none (by rw [blB_len]; omega)]
  · rw [if_neg e]
theorem blB_any {n : Nat} {l : List Nat} (h : ∀ k ∈ l, k < n) : (blB n l).any id = (l != []) := by
  cases l with
  | nil => simp [blB]
  | cons a r =>
    have : (blB n (a :: r)).any id = true := by
      rw [List.any_eq_true]
      refine ⟨true, ?_, rfl⟩
      simp only [blB, List.mem_map, List.mem_range]
      exact ⟨a, h a (by simp), by simp⟩
    rw [this]; rfl
theorem pigeon : ∀ (n : Nat) (l : List Nat), l.Nodup → (∀ k ∈ l, k < n) → l.length ≤ n
  | 0, l, _, h => by
    cases l with
    | nil => simp
    | cons a r => exact absurd (h a (by simp)) (by omega)
  | n + 1, l, nd, h => by
    have h1 : (l.erase n).length ≤ n := pigeon n _ (nd.erase n) fun k hk => by
      have h2 := (List.Nodup.mem_erase_iff nd).mp hk
      have h3 := h k h2.2
      omega
    have h4 : l.length ≤ (l.erase n).length + 1 := by
      rw [List.length_erase]; split <;> omega
    omega
theorem pigeon_all {n : Nat} {l : List Nat} (nd : l.Nodup) (h : ∀ k ∈ l, k < n) (hl : l.length = n) {k : Nat} (hk : k < n) : k ∈ l := by
  apply Classical.byContradiction
  intro hn
  have := pigeon n (k :: l) (List.nodup_cons.mpr ⟨hn, nd⟩) (fun j hj => by
    rcases List.mem_cons.mp hj with e | e
    · omega
    · exact h j e)
  simp only [List.length_cons] at this
  omega
theorem sorted_eq {n : Nat} {l : List Nat} (hn : n ≤ 16) (h : ∀ k ∈ l, k < n) : sorted l = (List.range n).filter fun k => l.contains k := by
  unfold sorted
  have e : List.range 16 = List.range n ++ (List.range (16 - n)).map (n + ·) := by
    rw [← List.range_add]; congr 1; omega
  rw [e, List.filter_append]
  have z : ((List.range (16 - n)).map (n + ·)).filter (fun k => l.contains k) = [] := by
    rw [List.filter_eq_nil_iff]
    intro a ha
    simp only [List.mem_map, List.mem_range] at ha
    obtain ⟨i, _, rfl⟩ := ha
    simp only [List.contains_eq_mem, decide_eq_true_eq]
    intro q
    have := h _ q
    omega
  rw [z, List.append_nil]
def bitsB (l : List Bool) : Nat := l.foldr (fun b x => x * 2 + bit b) 0
theorem bitsB_append (l : List Bool) (b : Bool) : bitsB (l ++ [b]) = bitsB l + bit b * 2 ^ l.length := by
  induction l with
  | nil => simp [bitsB]
  | cons a r ih =>
    have e : bitsB (a :: r ++ [b]) = bitsB (r ++ [b]) * 2 + bit a := rfl
    have e2 : bitsB (a :: r) = bitsB r * 2 + bit a := rfl
    rw [e, ih, e2, List.length_cons, Nat.pow_succ, Nat.add_mul, ← Nat.mul_assoc]
    omega
theorem bits_filter (l : List Nat) : ∀ n : Nat, (((List.range n).filter fun k => l.contains k).map fun k => 2 ^ k).sum = bitsB (blB n l)
  | 0 => rfl
  | n + 1 => by
    have e : blB (n + 1) l = blB n l ++ [l.contains n] := by simp [blB, List.range_succ]
    rw [e, bitsB_append, blB_len, List.range_succ, List.filter_append, List.map_append, List.sum_append, bits_filter l n]
    cases h : l.contains n with
    | true => simp only [List.filter_cons, h]; simp [bit]
    | false => simp only [List.filter_cons, h]; simp [bit]
theorem bits_eq {n : Nat} {l : List Nat} (hn : n ≤ 16) (h : ∀ k ∈ l, k < n) : bits l = bitsB (blB n l) := by
  unfold bits
  rw [sorted_eq hn h, bits_filter]
end My
namespace My
open Sa77
def eor (bs : List Nat) (at_ : Nat) : Option Nat := match bs[at_]? with
  | none => none
  | some c => if 64 < c then none else if at_ + 1 + c ≤ bs.length then some (at_ + 1 + c) else none
def eowL (bs : List Nat) (n : Nat) : Nat → Nat → Option Nat
  | 0, e => some e
  | k + 1, e => match bs[e]? with
    | none => none
    | some f => if n ≤ f then none else match eor bs (e + 1) with
      | none => none
      | some e' => eowL bs n k e'
def eow (bs : List Nat) (at_ n : Nat) : Option Nat := match bs[at_]? with
  | none => none
  | some c => if 64 < c then none else eowL bs n c (at_ + 1)
theorem drop_cons_get {bs : List Nat} {e f : Nat} {r : List Nat} (h : bs.drop e = f :: r) : bs[e]? = some f ∧ bs.drop (e + 1) = r ∧ e < bs.length := by
  have h1 : bs[e]? = some f := by
    have := congrArg (·[0]?) h
    simpa using this
  refine ⟨h1, ?_, ?_⟩
  · rw [← List.drop_drop, h]; rfl
  · exact (List.getElem?_eq_some_iff.mp h1).1
theorem drop_nil_le {bs : List Nat} {e : Nat} (h : bs.drop e = []) : bs.length ≤ e := List.drop_eq_nil_iff.mp h
theorem eowL_works (bs : List Nat) (n : Nat) : ∀ (k e : Nat), e ≤ bs.length → (worksOf n k (bs.drop e)).isSome = decide (eowL bs n k e = some bs.length)
  | 0, e, he => by
    unfold worksOf eowL
    by_cases h : bs.drop e = []
    · have := drop_nil_le h
      rw [if_pos h]
      have : e = bs.length := by omega
      simp [this]
    · rw [if_neg h]
      have : e ≠ bs.length := by
        intro q; apply h; rw [q]; simp
      simp [this]
  | k + 1, e, he => by
    cases h : bs.drop e with
    | nil =>
      have h0 := drop_nil_le h
      have h1 : bs[e]? = none := List.getElem?_eq_none h0
      simp [worksOf, eowL, h1]
    | cons f r1 =>
      obtain ⟨g1, g2, g3⟩ := drop_cons_get h
      cases h2 : r1 with
      | nil =>
        subst h2
        have h3 : bs[e + 1]? = none := List.getElem?_eq_none (drop_nil_le g2)
        simp [worksOf, eowL, g1, eor, h3]
      | cons m r =>
        subst h2
        obtain ⟨q1, q2, q3⟩ := drop_cons_get g2
        have hl : r.length = bs.length - (e + 2) := by rw [← q2]; simp
        unfold worksOf eowL
        simp only [g1, eor, q1]
        by_cases a1 : n ≤ f
        · simp [a1]
        · by_cases a2 : 64 < m
          · simp [a1, a2]
          · by_cases a3 : r.length < m
            · have : ¬ (e + 1 + 1 + m ≤ bs.length) := by omega
              simp [a1, a2, a3, this]
            · have h5 : e + 1 + 1 + m ≤ bs.length := by omega
              have h6 : r.drop m = bs.drop (e + 1 + 1 + m) := by rw [← q2, List.drop_drop]
              rw [if_neg (by omega), if_neg a1, if_neg a2, if_pos h5, Option.isSome_map, h6, eowL_works bs n k _ h5]
theorem right_other {n k : Nat} {r : List Nat} (h1 : k ≠ 1) (h2 : k ≠ 2) (h3 : k ≠ 3) (h4 : k ≠ 4) (h5 : k ≠ 5) (h6 : k ≠ 6) (h7 : k ≠ 7) : msgOf n (k :: r) = none := by
  unfold msgOf
  split <;> simp_all
theorem msg_work {n : Nat} {r : List Nat} : msgOf n (1 :: r) = if r.length ≤ 64 then some (.work r) else none := rfl
theorem msg_want {n : Nat} {r : List Nat} : msgOf n (5 :: r) = if r = [] then some .want else none := by
  cases r with
  | nil => rfl
  | cons a b => rfl
theorem msg_grant {n : Nat} {r : List Nat} : msgOf n (6 :: r) = if r = [] then some .grant else none := by
  cases r with
  | nil => rfl
  | cons a b => rfl
theorem msg_token {n : Nat} {r : List Nat} : msgOf n (2 :: r) = if r.length = 5 ∧ r.headD 0 ≤ 1 then some (.token (r.headD 0 == 1) (wrap ((natOf r.tail : Nat) : Int))) else none := by
  cases r with
  | nil => rfl
  | cons c q =>
    show (if c ≤ 1 ∧ q.length = 4 then some (Msg.token (c == 1) (wrap ((natOf q : Nat) : Int))) else none) = (if q.length + 1 = 5 ∧ c ≤ 1 then some (Msg.token (c == 1) (wrap ((natOf q : Nat) : Int))) else none)
    by_cases h : c ≤ 1 ∧ q.length = 4
    · rw [if_pos h, if_pos ⟨by omega, h.1⟩]
    · rw [if_neg h, if_neg (by omega)]
theorem msg_marker {n : Nat} {r : List Nat} : msgOf n (3 :: r) = if r.length = 5 ∧ r.headD 0 < n then some (.marker (r.headD 0) (natOf r.tail)) else none := by
  cases r with
  | nil => rfl
  | cons c q =>
    show (if c < n ∧ q.length = 4 then some (Msg.marker c (natOf q)) else none) = (if q.length + 1 = 5 ∧ c < n then some (Msg.marker c (natOf q)) else none)
    by_cases h : c < n ∧ q.length = 4
    · rw [if_pos h, if_pos ⟨by omega, h.1⟩]
    · rw [if_neg h, if_neg (by omega)]
theorem msg_probe {n : Nat} {r : List Nat} : msgOf n (7 :: r) = if r.length = 5 ∧ r.headD 0 < n then some (.probe (r.headD 0) (natOf r.tail)) else none := by
  cases r with
  | nil => rfl
  | cons c q =>
    show (if c < n ∧ q.length = 4 then some (Msg.probe c (natOf q)) else none) = (if q.length + 1 = 5 ∧ c < n then some (Msg.probe c (natOf q)) else none)
    by_cases h : c < n ∧ q.length = 4
    · rw [if_pos h, if_pos ⟨by omega, h.1⟩]
    · rw [if_neg h, if_neg (by omega)]
def isRR (bs : List Nat) (n : Nat) : Bool := match bs[5]? with
  | none => false
  | some m => if 1 < m then false else match eor bs 6 with
    | none => false
    | some a => decide (eow bs a n = some bs.length)
theorem msg_record_def (n : Nat) (r : List Nat) : msgOf n (4 :: r) = (match r.drop 4 with
    | m :: k :: q => if r.length < 4 ∨ 1 < m ∨ 64 < k ∨ q.length < k + 1 then none else
      let c := q.getD k 0
      if 64 < c then none else (worksOf n c (q.drop (k + 1))).map fun g => .record (natOf (r.take 4)) (m == 1) (q.take k) g
    | _ => none) := rfl
theorem right_record (n : Nat) (r : List Nat) : (msgOf n (4 :: r)).isSome = isRR (4 :: r) n := by
  rw [msg_record_def]
  cases h : r.drop 4 with
  | nil =>
    have h0 := drop_nil_le h
    have h1 : (4 :: r)[5]? = none := List.getElem?_eq_none (by simp only [List.length_cons]; omega)
    simp [isRR, h1]
  | cons m r1 =>
    obtain ⟨g1, g2, g3⟩ := drop_cons_get h
    have b5 : (4 :: r)[5]? = some m := by simpa using g1
    cases h2 : r1 with
    | nil =>
      subst h2
      have h0 := drop_nil_le g2
      have h1 : (4 :: r)[6]? = none := List.getElem?_eq_none (by simp only [List.length_cons]; omega)
      simp [isRR, b5, eor, h1]
    | cons k q =>
      subst h2
      obtain ⟨q1, q2, q3⟩ := drop_cons_get g2
      have b6 : (4 :: r)[6]? = some k := by simpa using q1
      have hl : q.length = r.length - 6 := by rw [← q2]; simp
      dsimp only
      simp only [isRR, b5, eor, b6, List.length_cons]
      by_cases a1 : 1 < m
      · simp [a1]
      · by_cases a2 : 64 < k
        · simp [a1, a2]
        · by_cases a3 : q.length < k
          · have : ¬ (6 + 1 + k ≤ r.length + 1) := by omega
            rw [if_pos (by omega), if_neg a1, if_neg a2, if_neg this]; rfl
          · have h7 : 6 + 1 + k ≤ r.length + 1 := by omega
            rw [if_neg a1, if_neg a2, if_pos h7]
            by_cases a4 : q.length < k + 1
            · rw [if_pos (by omega)]
              have h8 : (4 :: r)[6 + 1 + k]? = none := List.getElem?_eq_none (by simp only [List.length_cons]; omega)
              simp [eow, h8]
            · rw [if_neg (by omega)]
              have h9 : q[k]? = some (q.getD k 0) := by
                rw [List.getD_eq_getElem?_getD]
                rw [List.getElem?_eq_getElem (show k < q.length by omega)]; rfl
              have h10 : (4 :: r)[6 + 1 + k]? = some (q.getD k 0) := by
                rw [← h9, ← q2, List.getElem?_drop]
                have : 6 + 1 + k = (4 + 1 + 1 + k) + 1 := by omega
                rw [this, List.getElem?_cons_succ]
              simp only [eow, h10]
              by_cases a5 : 64 < q.getD k 0
              · rw [if_pos a5, if_pos a5]; simp
              · rw [if_neg a5, if_neg a5, Option.isSome_map]
                have h11 : q.drop (k + 1) = (4 :: r).drop (6 + 1 + k + 1) := by
                  rw [← q2, List.drop_drop]
                  have : 6 + 1 + k + 1 = (4 + 1 + 1 + (k + 1)) + 1 := by omega
                  rw [this, List.drop_succ_cons]
                rw [h11, eowL_works _ _ _ _ (by simp only [List.length_cons]; omega)]
                rfl
theorem works_flat (n : Nat) : ∀ (k : Nat) (b : List Nat) (g : List Work), worksOf n k b = some g → b = g.flatMap (fun (x : Work) => x.1 :: x.2.length :: x.2) ∧ g.length = k
  | 0, b, g, h => by
    unfold worksOf at h
    split at h
    · cases h; subst b; exact ⟨rfl, rfl⟩
    · cases h
  | k + 1, b, g, h => by
    unfold worksOf at h
    split at h
    · next f m r =>
      split at h
      · cases h
      · next hc =>
        cases e : worksOf n k (r.drop m) with
        | none => rw [e] at h; cases h
        | some l =>
          rw [e] at h
          cases h
          obtain ⟨h1, h2⟩ := works_flat n k _ _ e
          refine ⟨?_, by simp [h2]⟩
          have h3 : (r.take m).length = m := by rw [List.length_take]; omega
          simp only [List.flatMap_cons, List.cons_append, h3, ← h1, List.take_append_drop]
    · cases h
theorem msg_record {n : Nat} {r : List Nat} {m : Msg} (h : msgOf n (4 :: r) = some m) : ∃ much st g, m = .record (natOf (r.take 4)) much st g ∧ (4 :: r).drop 5 = recordBytes much st g ∧ 4 ≤ r.length := by
  rw [msg_record_def] at h
  split at h
  · next m1 k q e =>
    split at h
    · cases h
    · next hc =>
      dsimp only at h
      split at h
      · cases h
      · next hc2 =>
        cases e2 : worksOf n (q.getD k 0) (q.drop (k + 1)) with
        | none => rw [e2] at h; cases h
        | some g =>
          rw [e2] at h
          cases h
          obtain ⟨h1, h2⟩ := works_flat _ _ _ _ e2
          refine ⟨m1 == 1, q.take k, g, rfl, ?_, by omega⟩
          rw [List.drop_succ_cons, e]
          unfold recordBytes
          have hm : bit (m1 == 1) = m1 := by
            have : m1 = 0 ∨ m1 = 1 := by omega
            rcases this with rfl | rfl <;> rfl
          have hk : (q.take k).length = k := by rw [List.length_take]; omega
          have h9 : q.drop k = q.getD k 0 :: q.drop (k + 1) := by
            rw [List.drop_eq_getElem_cons (show k < q.length by omega), List.getD_eq_getElem?_getD, List.getElem?_eq_getElem (show k < q.length by omega)]; rfl
          rw [hm, hk, h2, ← h1, ← h9, List.take_append_drop]
  · cases h
end My
namespace My
open Sa77
structure WfR (n : Nat) (r : Rec) : Prop where
  who : r.who < n
  ways : ∀ k ∈ r.ways, k < n
  st : r.state.length ≤ 64
  got : r.got.length ≤ 64
  gb : ∀ g ∈ r.got, g.2.length ≤ 64
structure Wf (B : Nat) (S : St) : Prop where
  n2 : 2 ≤ S.n
  n16 : S.n ≤ 16
  me : S.me < S.n
  st : S.state.length ≤ 64
  num : S.num < 4294967296
  guess : S.guess < 4294967296
  out : S.out.length ≤ B
  outb : ∀ x ∈ S.out, x.2.bytes.length ≤ 8192
  inb : S.inbox.length ≤ 1024
  inbb : ∀ x ∈ S.inbox, x.2.length ≤ 64
  wants : ∀ k ∈ S.wants, k < S.n
  owes : ∀ k ∈ S.owes, k < S.n
  rnd : (S.recs.map (·.who)).Nodup
  rc : ∀ r ∈ S.recs, WfR S.n r
  own : ∀ r ∈ S.recs, r.who = S.me → r.num = S.num ∧ S.num ≠ 0 ∧ ∀ p ∈ S.parts, p.host ≠ S.me
  pnd : (S.parts.map (·.host)).Nodup
  part : ∀ p ∈ S.parts, p.host < S.n ∧ (recordBytes p.much p.state p.got).length ≤ 8192
  knd : (S.probes.map (·.1)).Nodup
  kn : ∀ p ∈ S.probes, p.1 < S.n
theorem Wf.mono {B C : Nat} {S : St} (h : Wf B S) (l : B ≤ C) : Wf C S := { h with out := Nat.le_trans h.out l }
theorem Wf.lt {B C : Nat} {S : St} (h : Wf B S) (l : S.out.length ≤ C) : Wf C S := { h with out := l }
theorem le_len (n k : Nat) : (le n k).length = n := by simp [le]
theorem flat_len (g : List Work) (h : ∀ x ∈ g, x.2.length ≤ 64) : (g.flatMap fun (x : Work) => x.1 :: x.2.length :: x.2).length ≤ 66 * g.length := by
  induction g with
  | nil => simp
  | cons a r ih =>
    simp only [List.flatMap_cons, List.length_append, List.length_cons]
    have := ih fun x hx => h x (by simp [hx])
    have := h a (by simp)
    omega
theorem rb_len {m : Bool} {s : Bytes} {g : List Work} (h1 : s.length ≤ 64) (h2 : g.length ≤ 64) (h3 : ∀ x ∈ g, x.2.length ≤ 64) : (recordBytes m s g).length ≤ 4400 := by
  unfold recordBytes
  simp only [List.length_append, List.length_cons]
  have := flat_len g h3
  omega
theorem rec_len {k : Nat} {m : Bool} {s : Bytes} {g : List Work} (h1 : s.length ≤ 64) (h2 : g.length ≤ 64) (h3 : ∀ x ∈ g, x.2.length ≤ 64) : (Msg.record k m s g).bytes.length ≤ 8192 := by
  have := rb_len (m := m) h1 h2 h3
  show (4 :: (le 4 k ++ recordBytes m s g)).length ≤ 8192
  simp only [List.length_append, List.length_cons, le_len]
  omega
theorem Wf.put {B : Nat} {S : St} (h : Wf B S) (to : Nat) {m : Msg} (hm : m.bytes.length ≤ 8192) : Wf (B + 1) (S.put to m) :=
  { h with
    out := by show (S.out ++ [(to, m)]).length ≤ B + 1; simp only [List.length_append, List.length_cons, List.length_nil]; have := h.out; omega
    outb := by
      intro x hx
      rcases List.mem_append.mp hx with q | q
      · exact h.outb x q
      · simp only [List.mem_singleton] at q; subst q; exact hm }
theorem Wf.toAll {B : Nat} {S : St} (h : Wf B S) {l : List Nat} {m : Msg} (hl : l.length ≤ 16) (hm : m.bytes.length ≤ 8192) : Wf (B + 16) (S.toAll l m) :=
  { h with
    out := by show (S.out ++ l.map fun k => (k, m)).length ≤ B + 16; simp only [List.length_append, List.length_map]; have := h.out; omega
    outb := by
      intro x hx
      rcases List.mem_append.mp hx with q | q
      · exact h.outb x q
      · obtain ⟨k, _, rfl⟩ := List.mem_map.mp q; exact hm }
theorem others_len (S : St) : S.others.length ≤ S.n := by
  unfold St.others
  exact Nat.le_trans (List.length_filter_le _ _) (by simp)
theorem others_lt {S : St} {k : Nat} (h : k ∈ S.others) : k < S.n := by
  have := (List.mem_filter.mp h).1
  simpa using this
theorem find_rec {S : St} {w : Nat} {r : Rec} (h : S.recs.find? (fun r => r.who == w) = some r) : r ∈ S.recs ∧ r.who = w := by
  have h1 := List.mem_of_find?_eq_some h
  have h2 := List.find?_some h
  exact ⟨h1, by simpa using h2⟩
theorem wf_pass {B : Nat} {S : St} (h : Wf B S) : Wf (B + 1) (pass S) := by
  unfold pass
  split
  · exact h.mono (by omega)
  · split
    · exact h.mono (by omega)
    · split
      · have h1 : Wf B { S with token := none, black := false } := { h with }
        exact h1.put _ (by simp [Msg.bytes, le_len])
      · split
        · have h1 : Wf B { S with token := none, found := true } := { h with }
          exact h1.mono (by omega)
        · have h1 : Wf B { S with token := none, black := false } := { h with }
          exact h1.put _ (by simp [Msg.bytes, le_len])
theorem nd_filter {S : St} (w : Nat) (h : (S.recs.map (·.who)).Nodup) : ((S.recs.filter fun q => q.who != w).map (·.who)).Nodup :=
  List.Nodup.sublist (List.Sublist.map _ List.filter_sublist) h
theorem wf_close {B : Nat} {S : St} (h : Wf B S) (w : Nat) : Wf (B + 1) (close S w) := by
  unfold close
  split
  · exact h.mono (by omega)
  · next r hr =>
    obtain ⟨hm, hw⟩ := find_rec hr
    split
    · exact h.mono (by omega)
    · have hR := h.rc r hm
      have h1 : Wf B { S with recs := S.recs.filter fun q => q.who != w } := { h with
        rnd := nd_filter w h.rnd
        rc := fun r hr => h.rc r (List.mem_filter.mp hr).1
        own := fun r hr => h.own r (List.mem_filter.mp hr).1 }
      dsimp only
      split
      · next hme =>
        obtain ⟨o1, o2, o3⟩ := h.own r hm (hw.trans hme)
        unfold gather
        have e : (S.parts.any fun q => q.host == S.me) = false := by
          rw [List.any_eq_false]; intro p hp; simpa using o3 p hp
        rw [if_neg (by simp only [e]; rw [o1]; simp [o2])]
        exact { h1.mono (Nat.le_succ B) with
          own := fun q hq hq2 => by
            have := (List.mem_filter.mp hq).2
            simp only [bne_iff_ne] at this
            exact absurd (hq2.trans hme.symm) this
          pnd := by
            show ((S.parts ++ [_]).map _).Nodup
            rw [List.map_append, List.nodup_append]
            refine ⟨h.pnd, by simp, ?_⟩
            intro a ha b hb
            simp only [List.map_cons, List.map_nil, List.mem_singleton] at hb
            obtain ⟨p, hp, rfl⟩ := List.mem_map.mp ha
            rw [hb]; exact o3 p hp
          part := fun p hp => by
            rcases List.mem_append.mp hp with q | q
            · exact h.part p q
            · simp only [List.mem_singleton] at q; subst q
              exact ⟨h.me, Nat.le_trans (rb_len hR.st hR.got hR.gb) (by omega)⟩ }
      · exact h1.put _ (rec_len hR.st hR.got hR.gb)
theorem wf_record {B : Nat} {S : St} (h : Wf B S) {w k : Nat} {ways : List Nat} (hn : S.recs.find? (fun r => r.who == w) = none) (hw : w < S.n) (hways : ∀ j ∈ ways, j < S.n)
    (hme : w = S.me → k = S.num ∧ S.num ≠ 0 ∧ ∀ p ∈ S.parts, p.host ≠ S.me) : Wf (B + 17) (record S w k ways) := by
  unfold record
  have h1 : Wf B ({ S with recs := S.recs ++ [(⟨w, k, S.state, ways, [], false⟩ : Rec)] } : St) := { h with
    rnd := by
      show ((S.recs ++ [_]).map _).Nodup
      rw [List.map_append, List.nodup_append]
      refine ⟨h.rnd, by simp, ?_⟩
      intro a ha b hb
      simp only [List.map_cons, List.map_nil, List.mem_singleton] at hb
      obtain ⟨p, hp, rfl⟩ := List.mem_map.mp ha
      rw [hb]
      have := List.find?_eq_none.mp hn p hp
      simpa using this
    rc := fun r hr => by
      rcases List.mem_append.mp hr with q | q
      · exact h.rc r q
      · simp only [List.mem_singleton] at q; subst q
        exact ⟨hw, hways, h.st, by simp, by simp⟩
    own := fun r hr hq => by
      rcases List.mem_append.mp hr with q | q
      · exact h.own r q hq
      · simp only [List.mem_singleton] at q; subst q
        exact hme hq }
  have h2 := h1.toAll (l := S.others) (m := .marker w k) (Nat.le_trans (others_len S) h.n16) (by simp [Msg.bytes, le_len])
  exact wf_close h2 w
theorem wf_marker {B : Nat} {S : St} (h : Wf B S) {j w k : Nat} (hw : w < S.n) : Wf (B + 17) (marker S j w k) := by
  unfold marker
  split
  · next r hr =>
    split
    · have h1 : Wf B { S with recs := S.recs.map fun (q : Rec) => if q.who = w then { q with ways := q.ways.filter fun k => k != j } else q } := { h with
        rnd := by
          show ((S.recs.map _).map _).Nodup
          rw [List.map_map]
          have e : ((fun x : Rec => x.who) ∘ fun (q : Rec) => if q.who = w then { q with ways := q.ways.filter fun k => k != j } else q) = fun x : Rec => x.who := by
            funext q; simp only [Function.comp]; split <;> rfl
          rw [e]; exact h.rnd
        rc := fun r hr => by
          obtain ⟨q, hq, rfl⟩ := List.mem_map.mp hr
          have := h.rc q hq
          dsimp only
          split
          · exact { this with ways := fun k hk => this.ways k (List.mem_filter.mp hk).1 }
          · exact this
        own := fun r hr he => by
          obtain ⟨q, hq, rfl⟩ := List.mem_map.mp hr
          have := h.own q hq
          by_cases hc : q.who = w
          · simp only [if_pos hc] at he ⊢; exact this he
          · simp only [if_neg hc] at he ⊢; exact this he }
      exact (wf_close h1 w).mono (by omega)
    · exact h.mono (by omega)
  · next hn =>
    split
    · exact h.mono (by omega)
    · next hme => exact wf_record h hn hw (fun i hi => others_lt (List.mem_filter.mp hi).1) (fun e => absurd e hme)
theorem wf_gather {B : Nat} {S : St} (h : Wf B S) {p : Part} {k : Nat} (hp : p.host < S.n) (hme : p.host ≠ S.me) (hl : (recordBytes p.much p.state p.got).length ≤ 8192) : Wf B (gather S p k) := by
  unfold gather
  split
  · exact h
  · next hc =>
    have e : (S.parts.any fun q => q.host == p.host) = false := by
      cases e : (S.parts.any fun q => q.host == p.host) with
      | true => exact absurd (.inr (.inr e)) hc
      | false => rfl
    rw [List.any_eq_false] at e
    exact { h with
      own := fun r hr he => by
        obtain ⟨a, b, c⟩ := h.own r hr he
        refine ⟨a, b, fun q hq => ?_⟩
        rcases List.mem_append.mp hq with z | z
        · exact c q z
        · simp only [List.mem_singleton] at z; subst z; exact hme
      pnd := by
        show ((S.parts ++ [_]).map _).Nodup
        rw [List.map_append, List.nodup_append]
        refine ⟨h.pnd, by simp, ?_⟩
        intro a ha b hb
        simp only [List.map_cons, List.map_nil, List.mem_singleton] at hb
        obtain ⟨q, hq, rfl⟩ := List.mem_map.mp ha
        rw [hb]
        have := e q hq
        simpa using this
      part := fun q hq => by
        rcases List.mem_append.mp hq with z | z
        · exact h.part q z
        · simp only [List.mem_singleton] at z; subst z; exact ⟨hp, hl⟩ }
theorem sorted_len (l : List Nat) : (sorted l).length ≤ 16 := by
  unfold sorted
  exact Nat.le_trans (List.length_filter_le _ _) (by simp)
theorem wf_probe {B : Nat} {S : St} (h : Wf B S) {j w k : Nat} (hw : w < S.n) : Wf (B + 16) (probe S j w k) := by
  unfold probe
  split
  · exact h.mono (by omega)
  · have h1 : Wf B { S with probes := (w, k) :: S.probes.filter fun p => p.1 != w } := { h with
      knd := by
        show (w :: (S.probes.filter _).map _).Nodup
        rw [List.nodup_cons]
        refine ⟨?_, List.Nodup.sublist (List.Sublist.map _ List.filter_sublist) h.knd⟩
        intro q
        obtain ⟨p, hp, e⟩ := List.mem_map.mp q
        have := (List.mem_filter.mp hp).2
        simp [e] at this
      kn := fun p hp => by
        rcases List.mem_cons.mp hp with q | q
        · rw [q]; exact hw
        · exact h.kn p (List.mem_filter.mp q).1 }
    dsimp only
    split
    · have h2 : Wf B { S with probes := (w, k) :: S.probes.filter fun p => p.1 != w, locked := true } := { h1 with }
      exact h2.mono (by omega)
    · exact h1.toAll (sorted_len _) (by simp [Msg.bytes, le_len])
theorem wf_noted {n : Nat} {r : Rec} (h : WfR n r) {j : Nat} {b : Bytes} (hb : b.length ≤ 64) : WfR n (noted r j b) := by
  unfold noted
  split
  · exact h
  · split
    · exact { h with }
    · exact { h with
        got := by simp only [List.length_append, List.length_cons, List.length_nil]; omega
        gb := fun g hg => by
          rcases List.mem_append.mp hg with q | q
          · exact h.gb g q
          · simp only [List.mem_singleton] at q; subst q; exact hb }
theorem noted_who (r : Rec) (j : Nat) (b : Bytes) : (noted r j b).who = r.who ∧ (noted r j b).num = r.num := by
  unfold noted
  split
  · exact ⟨rfl, rfl⟩
  · split <;> exact ⟨rfl, rfl⟩
theorem wf_came {B : Nat} {S : St} (h : Wf B S) {j : Nat} {bs : List Nat} {m : Msg} (hj : j < S.n) (hjm : j ≠ S.me) (hb : bs.length ≤ 8192) (hi : S.inbox.length < 1024) (hm : msgOf S.n bs = some m) : Wf (B + 17) (came S j m) := by
  cases bs with
  | nil => cases hm
  | cons k r =>
    by_cases k1 : k = 1
    · subst k1
      rw [msg_work] at hm
      split at hm
      · next hr =>
        cases hm
        refine Wf.mono (B := B) ?_ (by omega)
        exact { h with
          inb := by show (S.inbox ++ [(j, r)]).length ≤ 1024; simp only [List.length_append, List.length_cons, List.length_nil]; omega
          inbb := fun x hx => by
            rcases List.mem_append.mp hx with q | q
            · exact h.inbb x q
            · simp only [List.mem_singleton] at q; subst q; exact hr
          rnd := by
            show ((S.recs.map _).map _).Nodup
            rw [List.map_map]
            have e : ((fun x : Rec => x.who) ∘ fun (q : Rec) => noted q j r) = fun x : Rec => x.who := by
              funext q; exact (noted_who q j r).1
            rw [e]; exact h.rnd
          rc := fun q hq => by
            obtain ⟨x, hx, rfl⟩ := List.mem_map.mp hq
            exact wf_noted (h.rc x hx) hr
          own := fun q hq he => by
            obtain ⟨x, hx, rfl⟩ := List.mem_map.mp hq
            rw [(noted_who x j r).2]
            exact h.own x hx ((noted_who x j r).1.symm.trans he) }
      · cases hm
    · by_cases k2 : k = 2
      · subst k2
        rw [msg_token] at hm
        split at hm
        · cases hm
          show Wf (B + 17) (if S.token.isSome = true then S else _)
          split
          · exact h.mono (by omega)
          · refine Wf.mono (B := B + 1) (wf_pass ?_) (by omega)
            exact { h with }
        · cases hm
      · by_cases k3 : k = 3
        · subst k3
          rw [msg_marker] at hm
          split at hm
          · next hc => cases hm; exact wf_marker h hc.2
          · cases hm
        · by_cases k4 : k = 4
          · subst k4
            obtain ⟨much, st, g, rfl, h5, _⟩ := msg_record hm
            refine Wf.mono (B := B) (wf_gather h hj hjm ?_) (by omega)
            rw [← h5]
            rw [List.length_drop]; omega
          · by_cases k5 : k = 5
            · subst k5
              rw [msg_want] at hm
              split at hm
              · cases hm
                show Wf (B + 17) (if S.owes.contains j = true then S else _)
                refine Wf.mono (B := B) ?_ (by omega)
                split
                · exact h
                · exact { h with
                    owes := fun k hk => by
                      rcases List.mem_append.mp hk with q | q
                      · exact h.owes k q
                      · simp only [List.mem_singleton] at q; subst q; exact hj }
              · cases hm
            · by_cases k6 : k = 6
              · subst k6
                rw [msg_grant] at hm
                split at hm
                · cases hm
                  refine Wf.mono (B := B) ?_ (by omega)
                  exact { h with wants := fun k hk => h.wants k (List.mem_filter.mp hk).1 }
                · cases hm
              · by_cases k7 : k = 7
                · subst k7
                  rw [msg_probe] at hm
                  split at hm
                  · next hc => cases hm; exact (wf_probe h hc.2).mono (by omega)
                  · cases hm
                · rw [right_other k1 k2 k3 k4 k5 k6 k7] at hm; cases hm
theorem whole_me {B : Nat} {S : St} (h : Wf B S) (hw : S.whole = true) : S.recs.find? (fun r => r.who == S.me) = none := by
  rw [List.find?_eq_none]
  intro r hr he
  have he : r.who = S.me := by simpa using he
  obtain ⟨_, _, h3⟩ := h.own r hr he
  have hl : S.parts.length = S.n := by unfold St.whole at hw; simpa using hw
  have := pigeon_all h.pnd (n := S.n) (fun k hk => by
    obtain ⟨p, hp, rfl⟩ := List.mem_map.mp hk
    exact (h.part p hp).1) (by rw [List.length_map]; exact hl) h.me
  obtain ⟨p, hp, e⟩ := List.mem_map.mp this
  exact h3 p hp e
theorem num0_me {B : Nat} {S : St} (h : Wf B S) (hw : S.num = 0) : S.recs.find? (fun r => r.who == S.me) = none := by
  rw [List.find?_eq_none]
  intro r hr he
  have he : r.who = S.me := by simpa using he
  exact (h.own r hr he).2.1 hw
def callOk : Call → Prop
  | .state b k => (b.length : Int) = k
  | .send _ b k => (b.length : Int) = k
  | .message _ b k => (b.length : Int) = k
  | _ => True
theorem within_iff {z lo hi : Int} : within z lo hi = true ↔ lo ≤ z ∧ z ≤ hi := by
  unfold within; simp
theorem other_iff {S : St} {z : Int} : other S z = true ↔ 0 ≤ z ∧ z < S.n ∧ z ≠ S.me := by
  unfold other; rw [Bool.and_eq_true, within_iff, decide_eq_true_eq]; omega
theorem busy_le {S : St} (h : S.busy = false) : S.out.length ≤ 512 := by
  unfold St.busy at h; simp at h; omega
theorem wf_begun {me n : Nat} {a : Bool} (h2 : 2 ≤ n) (h16 : n ≤ 16) (hme : me < n) : Wf 0 (begun me n a) := by
  constructor <;> simp [begun] <;> omega
theorem wf_does {S S' : St} {c : Call} {a : Ans} (h : Wf 600 S) (hc : callOk c) (e : does (some S) c = (some S', a)) : Wf 600 S' := by
  cases c with
  | begin_ me n z =>
    simp only [does] at e
    split at e
    · cases e; exact h
    · next hw =>
      cases e
      have hw' : (within n 2 16 && within me 0 (n - 1)) = true := by
        cases q : (within n 2 16 && within me 0 (n - 1)) with
        | true => rfl
        | false => exact absurd q hw
      rw [Bool.and_eq_true, within_iff, within_iff] at hw'
      exact (wf_begun (by omega) (by omega) (by omega)).mono (by omega)
  | state b k =>
    simp only [does] at e
    split at e
    · cases e; exact h
    · next hw =>
      cases e
      have hw' : within k 0 64 = true := by
        cases q : within k 0 64 with
        | true => rfl
        | false => exact absurd q hw
      rw [within_iff] at hw'
      have hc : (b.length : Int) = k := hc
      exact { h with st := by show b.length ≤ 64; omega }
  | send z b k =>
    simp only [does] at e
    split at e
    · cases e; exact h
    · next hw =>
      split at e
      · cases e; exact h
      · split at e
        · cases e; exact h
        · next hb =>
          cases e
          have hw' : (other S z && within k 0 64) = true := by
            cases q : (other S z && within k 0 64) with
            | true => rfl
            | false => exact absurd q hw
          rw [Bool.and_eq_true, within_iff] at hw'
          have hc : (b.length : Int) = k := hc
          have h1 : Wf 512 { S with sum := wrap (S.sum + 1) } := { h.lt (busy_le (by simpa using hb)) with }
          refine (h1.put _ ?_).mono (by omega)
          show (1 :: b).length ≤ 8192
          simp only [List.length_cons]; omega
  | idle =>
    simp only [does] at e
    split at e
    · cases e; exact h
    · split at e
      · cases e; exact h
      · next hb =>
        cases e
        have h1 : Wf 512 { S with active := false } := { h.lt (busy_le (by simpa using hb)) with }
        exact (wf_pass h1).mono (by omega)
  | watch =>
    simp only [does] at e
    split at e
    · cases e; exact h
    · split at e
      · cases e; exact h
      · next hb =>
        cases e
        have h1 : Wf 512 { S with watches := true, token := some (true, 0) } := { h.lt (busy_le (by simpa using hb)) with }
        exact (wf_pass h1).mono (by omega)
  | snapshot =>
    simp only [does] at e
    split at e
    · cases e; exact h
    · next hw =>
      split at e
      · cases e; exact h
      · next hb =>
        cases e
        have hb1 : S.busy = false := by cases q : S.busy with
          | true => exact absurd (.inl q) hb
          | false => rfl
        have hfind : S.recs.find? (fun r => r.who == S.me) = none := by
          by_cases q : S.num = 0
          · exact num0_me h q
          · refine whole_me h ?_
            cases q2 : S.whole with
            | true => rfl
            | false => exact absurd ⟨q, q2⟩ hw
        have nome : ∀ r ∈ S.recs, r.who ≠ S.me := fun r hr => by
          have := List.find?_eq_none.mp hfind r hr
          simpa using this
        have h1 : Wf 512 { S with num := S.num + 1, parts := [] } := { h.lt (busy_le hb1) with
          num := by show S.num + 1 < 4294967296; omega
          own := fun r hr he => absurd he (nome r hr)
          pnd := by simp
          part := fun p hp => by cases hp }
        exact (wf_record h1 hfind h.me (fun j hj => others_lt hj) (fun _ => ⟨rfl, by simp, fun p hp => by cases hp⟩)).mono (by omega)
  | want z =>
    simp only [does] at e
    split at e
    · cases e; exact h
    · next hw =>
      split at e
      · cases e; exact h
      · split at e
        · cases e; exact h
        · next hb =>
          cases e
          have hw' : other S z = true := by simpa using hw
          rw [other_iff] at hw'
          have h1 : Wf 512 { S with wants := S.wants ++ [z.toNat] } := { h.lt (busy_le (by simpa using hb)) with
            wants := fun k hk => by
              rcases List.mem_append.mp hk with q | q
              · exact h.wants k q
              · simp only [List.mem_singleton] at q; subst q; show z.toNat < S.n; omega }
          exact (h1.put _ (by simp [Msg.bytes])).mono (by omega)
  | grant z =>
    simp only [does] at e
    split at e
    · cases e; exact h
    · next hw =>
      split at e
      · cases e; exact h
      · split at e
        · cases e; exact h
        · next hb =>
          cases e
          have h1 : Wf 512 { S with owes := S.owes.filter fun k => k != z.toNat } := { h.lt (busy_le (by simpa using hb)) with
            owes := fun k hk => h.owes k (List.mem_filter.mp hk).1 }
          exact (h1.put _ (by simp [Msg.bytes])).mono (by omega)
  | suspect =>
    simp only [does] at e
    split at e
    · cases e; exact h
    · split at e
      · cases e; exact h
      · next hb =>
        cases e
        have hb1 : S.busy = false := by cases q : S.busy with
          | true => exact absurd (.inl q) hb
          | false => rfl
        have h1 : Wf 512 { S with guess := S.guess + 1 } := { h.lt (busy_le hb1) with
          guess := by show S.guess + 1 < 4294967296; omega }
        exact (h1.toAll (sorted_len _) (by simp [Msg.bytes, le_len])).mono (by omega)
  | message z b k =>
    simp only [does] at e
    split at e
    · cases e; exact h
    · next hw =>
      split at e
      · cases e; exact h
      · next hb =>
        have hb1 : S.busy = false := by cases q : S.busy with
          | true => exact absurd (.inl q) hb
          | false => rfl
        split at e
        · cases e; exact h
        · next m hm =>
          cases e
          have hw' : (other S z && within k 0 8192) = true := by simpa using hw
          rw [Bool.and_eq_true, other_iff, within_iff] at hw'
          have hc : (b.length : Int) = k := hc
          exact (wf_came (h.lt (busy_le hb1)) (by omega) (by omega) (by omega) (by omega) hm).mono (by omega)
  | output r =>
    simp only [does] at e
    split at e
    · cases e; exact h
    · split at e
      · cases e; exact h
      · next x l hx =>
        split at e
        · cases e; exact h
        · cases e
          exact { h with
            out := by have := h.out; rw [hx] at this; simp only [List.length_cons] at this; show l.length ≤ 600; omega
            outb := fun y hy => h.outb y (by rw [hx]; exact List.mem_cons_of_mem _ hy) }
  | take r =>
    simp only [does] at e
    split at e
    · cases e; exact h
    · split at e
      · cases e; exact h
      · next x l hx =>
        split at e
        · cases e; exact h
        · cases e
          exact { h with
            inb := by have := h.inb; rw [hx] at this; simp only [List.length_cons] at this; show l.length ≤ 1024; omega
            inbb := fun y hy => h.inbb y (by rw [hx]; exact List.mem_cons_of_mem _ hy) }
  | cut r =>
    simp only [does] at e
    split at e
    · cases e; exact h
    · split at e
      · cases e; exact h
      · split at e
        · cases e; exact h
        · cases e; exact h
  | told => simp only [does] at e; cases e; exact h
end My
namespace My
open Sa77
theorem whole_id (c : List (List Int)) : PySa77.whole c = c := by
  unfold PySa77.whole
  split <;> rfl
theorem calls_eq (l : List Int) : PySa77.calls l = PyFlat.calls PySa77.shape l.length l := by
  unfold PySa77.calls
  cases PyFlat.calls PySa77.shape l.length l with
  | none => rfl
  | some cs =>
    have : (fun c => PySa77.whole c) = id := by funext c; exact whole_id c
    show some (cs.map PySa77.whole) = some cs
    rw [show PySa77.whole = id from this, List.map_id]
def Nr (f : Nat) (r : List Int) (cs : List (List (List Int))) : Prop := PyFlat.calls PySa77.shape f r = some cs
theorem Nr.nil {f : Nat} {cs : List (List (List Int))} (h : Nr f [] cs) : cs = [] := by
  unfold Nr PyFlat.calls at h
  cases f <;> · cases h; rfl
theorem Nr.cons {f : Nat} {p : Int} {r : List Int} {cs : List (List (List Int))} (h : Nr f (p :: r) cs) : ∃ c t cs' f', PyFlat.call PySa77.shape (p :: r) = some (c, t) ∧ Nr f' t cs' ∧ cs = c :: cs' := by
  unfold Nr at h
  cases f with
  | zero => unfold PyFlat.calls at h; cases h
  | succ f =>
    unfold PyFlat.calls at h
    split at h
    · cases h
    · next c t hc =>
      split at h
      · cases h
      · next cs' hcs => cases h; exact ⟨c, t, cs', f, hc, hcs, rfl⟩
theorem row_some {r : List Int} {x t : List Int} (h : PyFlat.row r = some (x, t)) : ∃ (n : Nat) (q : List Int), r = (n : Int) :: q ∧ n ≤ q.length ∧ x = q.take n ∧ t = q.drop n := by
  cases r with
  | nil => cases h
  | cons n q =>
    have h : (if 0 ≤ n ∧ n.toNat ≤ q.length then some (q.take n.toNat, q.drop n.toNat) else none) = some (x, t) := h
    by_cases hc : 0 ≤ n ∧ n.toNat ≤ q.length
    · rw [if_pos hc] at h
      cases h
      refine ⟨n.toNat, q, ?_, hc.2, rfl, rfl⟩
      rw [Int.toNat_of_nonneg hc.1]
    · rw [if_neg hc] at h; cases h
theorem call_00 {p : Int} {r : List Int} {c : List (List Int)} {t : List Int} (hs : PySa77.shape p = some (0, 0)) (h : PyFlat.call PySa77.shape (p :: r) = some (c, t)) : c = [[p]] ∧ t = r := by
  unfold PyFlat.call at h
  dsimp only at h
  rw [hs] at h
  simp [PyFlat.rows] at h
  exact ⟨h.1.symm, h.2.symm⟩
theorem call_10 {p : Int} {r : List Int} {c : List (List Int)} {t : List Int} (hs : PySa77.shape p = some (1, 0)) (h : PyFlat.call PySa77.shape (p :: r) = some (c, t)) : ∃ a, r = a :: t ∧ c = [[p, a]] := by
  unfold PyFlat.call at h
  dsimp only at h
  rw [hs] at h
  cases r with
  | nil => simp [PyFlat.rows] at h
  | cons a r =>
    simp [PyFlat.rows] at h
    exact ⟨a, by rw [h.2], h.1.symm⟩
theorem call_30 {p : Int} {r : List Int} {c : List (List Int)} {t : List Int} (hs : PySa77.shape p = some (3, 0)) (h : PyFlat.call PySa77.shape (p :: r) = some (c, t)) : ∃ a b d, r = a :: b :: d :: t ∧ c = [[p, a, b, d]] := by
  unfold PyFlat.call at h
  dsimp only at h
  rw [hs] at h
  match r with
  | [] => simp [PyFlat.rows] at h
  | [a] => simp [PyFlat.rows] at h
  | [a, b] => simp [PyFlat.rows] at h
  | a :: b :: d :: r =>
    simp [PyFlat.rows] at h
    exact ⟨a, b, d, by rw [h.2], h.1.symm⟩
theorem rows_one {r : List Int} {xs : List (List Int)} {t : List Int} (h : PyFlat.rows 1 r = some (xs, t)) : ∃ x, PyFlat.row r = some (x, t) ∧ xs = [x] := by
  unfold PyFlat.rows at h
  split at h
  · cases h
  · next x s hr =>
    simp [PyFlat.rows] at h
    exact ⟨x, by rw [hr, h.2], h.1.symm⟩
theorem call_01 {p : Int} {r : List Int} {c : List (List Int)} {t : List Int} (hs : PySa77.shape p = some (0, 1)) (h : PyFlat.call PySa77.shape (p :: r) = some (c, t)) : ∃ (n : Nat) (q : List Int), r = (n : Int) :: q ∧ n ≤ q.length ∧ c = [[p], q.take n] ∧ t = q.drop n := by
  unfold PyFlat.call at h
  dsimp only at h
  rw [hs] at h
  dsimp only at h
  rw [if_neg (by omega)] at h
  split at h
  · cases h
  · next xs s hr =>
    cases h
    obtain ⟨x, h1, rfl⟩ := rows_one hr
    obtain ⟨n, q, h2, h3, h4, h5⟩ := row_some h1
    exact ⟨n, q, by simpa using h2, h3, by rw [h4]; simp, h5⟩
theorem call_11 {p : Int} {r : List Int} {c : List (List Int)} {t : List Int} (hs : PySa77.shape p = some (1, 1)) (h : PyFlat.call PySa77.shape (p :: r) = some (c, t)) : ∃ (a : Int) (n : Nat) (q : List Int), r = a :: (n : Int) :: q ∧ n ≤ q.length ∧ c = [[p, a], q.take n] ∧ t = q.drop n := by
  unfold PyFlat.call at h
  dsimp only at h
  rw [hs] at h
  dsimp only at h
  cases r with
  | nil => simp at h
  | cons a r =>
    rw [if_neg (by simp)] at h
    split at h
    · cases h
    · next xs s hr =>
      cases h
      obtain ⟨x, h1, rfl⟩ := rows_one hr
      obtain ⟨n, q, h2, h3, h4, h5⟩ := row_some h1
      refine ⟨a, n, q, ?_, h3, by rw [h4]; simp, h5⟩
      have h2 : r = (n : Int) :: q := h2
      rw [h2]
theorem call_shape {p : Int} {r : List Int} {x : List (List Int) × List Int} (h : PyFlat.call PySa77.shape (p :: r) = some x) : 0 ≤ p ∧ p ≤ 13 := by
  unfold PyFlat.call at h
  dsimp only at h
  split at h
  · cases h
  · next n k hs =>
    unfold PySa77.shape at hs
    by_cases h1 : 0 ≤ p ∧ p ≤ 13
    · exact h1
    · rw [if_neg (by omega), if_neg (by omega), if_neg (by omega), if_neg (by omega), if_neg (by omega), if_neg (by omega), if_neg (by omega), if_neg (by omega), if_neg (by omega), if_neg (by omega), if_neg (by omega), if_neg (by omega), if_neg (by omega), if_neg (by omega)] at hs
      cases hs
theorem ints_nats {l : List Int} (h : l.all (fun (z : Int) => Sa77Neutral.natural z 8) = true) : byL (Sa77Neutral.nats l) = l := by
  rw [List.all_eq_true] at h
  unfold byL Sa77Neutral.ints Sa77Neutral.nats
  rw [List.map_map]
  conv => rhs; rw [← List.map_id l]
  apply List.map_congr_left
  intro z hz
  have := h z hz
  unfold Sa77Neutral.natural at this
  simp at this
  show ((z.toNat : Nat) : Int) = z
  omega
end My
namespace My
open Sa77
theorem toAll_nil (S : St) (m : Msg) : S.toAll [] m = S := by
  cases S; simp [St.toAll]
theorem toAll_yes (S : St) (m : Msg) (p : Nat → Bool) {i : Nat} (h : p i = true) : (S.toAll ((List.range i).filter p) m).put i m = S.toAll ((List.range (i + 1)).filter p) m := by
  unfold St.toAll St.put
  simp [List.range_succ, List.filter_append, h]
theorem toAll_no (S : St) (m : Msg) (p : Nat → Bool) {i : Nat} (h : p i = false) : S.toAll ((List.range i).filter p) m = S.toAll ((List.range (i + 1)).filter p) m := by
  unfold St.toAll
  simp [List.range_succ, List.filter_append, h]
theorem toAll_len (S : St) (m : Msg) (p : Nat → Bool) (i : Nat) : (S.toAll ((List.range i).filter p) m).out.length ≤ S.out.length + i := by
  show (S.out ++ _).length ≤ _
  rw [List.length_append, List.length_map]
  have := List.length_filter_le p (List.range i)
  rw [List.length_range] at this
  omega
end My
namespace My
open Sa77
def recAt (S : St) (w : Nat) : Option Rec := S.recs.find? fun r => r.who == w
theorem recAt_who {S : St} {w : Nat} {r : Rec} (h : recAt S w = some r) : r.who = w := (find_rec h).2
theorem recAt_mem {S : St} {w : Nat} {r : Rec} (h : recAt S w = some r) : r ∈ S.recs := (find_rec h).1
theorem recAt_none {S : St} {w : Nat} (h : recAt S w = none) : ∀ r ∈ S.recs, r.who ≠ w := fun r hr => by
  have := List.find?_eq_none.mp h r hr
  simpa using this
theorem recAt_snoc {S : St} {w : Nat} {n : Rec} (hn : n.who = w) (h : recAt S w = none) (v : Nat) : recAt { S with recs := S.recs ++ [n] } v = if v = w then some n else recAt S v := by
  unfold recAt
  show (S.recs ++ [n]).find? _ = _
  rw [List.find?_append]
  by_cases e : v = w
  · subst e
    rw [if_pos rfl]
    have h' : S.recs.find? (fun r => r.who == v) = none := h
    rw [h']
    simp [List.find?_cons, hn]
  · rw [if_neg e]
    have : ¬ n.who = v := fun q => e (q.symm.trans hn)
    simp [List.find?_cons, this]
theorem find_filter_ne (l : List Rec) (w v : Nat) : (l.filter fun q => q.who != w).find? (fun r => r.who == v) = if v = w then none else l.find? fun r => r.who == v := by
  induction l with
  | nil => simp
  | cons a t ih =>
    by_cases h : a.who = w
    · have h1 : (a.who != w) = false := by simp [h]
      rw [List.filter_cons, if_neg (by rw [h1]; exact Bool.false_ne_true), ih]
      by_cases e : v = w
      · simp [e]
      · have : ¬ a.who = v := fun q => e (q.symm.trans h)
        simp only [if_neg e, List.find?_cons, beq_eq_false_iff_ne.mpr this]
    · have h1 : (a.who != w) = true := by simp [h]
      rw [List.filter_cons, if_pos h1]
      simp only [List.find?_cons, ih]
      by_cases e : a.who = v
      · have : v ≠ w := fun q => h (e.trans q)
        simp only [beq_iff_eq.mpr e, if_neg this]
      · simp only [beq_eq_false_iff_ne.mpr e]
theorem recAt_drop (S : St) (w v : Nat) : recAt { S with recs := S.recs.filter fun q => q.who != w } v = if v = w then none else recAt S v := find_filter_ne S.recs w v
def setR (S : St) (w : Nat) (f : Rec → Rec) : St := { S with recs := S.recs.map fun q => if q.who = w then f q else q }
theorem find_map_set (l : List Rec) (w v : Nat) (f : Rec → Rec) (hf : ∀ q, (f q).who = q.who) : (l.map fun q => if q.who = w then f q else q).find? (fun r => r.who == v) = if v = w then (l.find? fun r => r.who == v).map f else l.find? fun r => r.who == v := by
  induction l with
  | nil => simp
  | cons a t ih =>
    rw [List.map_cons, List.find?_cons, List.find?_cons]
    by_cases h : a.who = w
    · rw [if_pos h, hf]
      by_cases e : a.who = v
      · have : v = w := e.symm.trans h
        simp [e, this]
      · simp only [beq_eq_false_iff_ne.mpr e, ih]
    · rw [if_neg h]
      by_cases e : a.who = v
      · have : v ≠ w := fun q => h (e.trans q)
        simp [e, this]
      · simp only [beq_eq_false_iff_ne.mpr e, ih]
theorem recAt_set (S : St) (w v : Nat) (f : Rec → Rec) (hf : ∀ q, (f q).who = q.who) : recAt (setR S w f) v = if v = w then (recAt S v).map f else recAt S v := find_map_set S.recs w v f hf
theorem setR_whos (S : St) (w : Nat) (f : Rec → Rec) (hf : ∀ q, (f q).who = q.who) {β : Type} (G : Nat → β) : ((setR S w f).recs.map fun r => G r.who) = S.recs.map fun r => G r.who := by
  show ((S.recs.map _).map _) = _
  rw [List.map_map]
  apply List.map_congr_left
  intro q _
  simp only [Function.comp]
  split
  · rw [hf]
  · rfl
theorem ways_blB {n me c : Nat} : blB n (((List.range n).filter fun k => k != me).filter fun k => k != c) = (List.range n).map fun k => (k != me) && (k != c) := by
  unfold blB
  apply List.map_congr_left
  intro k hk
  rw [contains_filter_ne, contains_filter_ne]
  have : (List.range n).contains k = true := by simpa using hk
  rw [this, Bool.true_and]
theorem filter_me (S : St) : S.others.filter (fun k => k != S.me) = S.others := by
  unfold St.others
  rw [List.filter_filter]
  congr 1
  funext k
  simp
def notedTo (S : St) (j : Nat) (b : Bytes) (i : Nat) : St := { S with recs := S.recs.map fun q => if ((S.recs.take i).map (·.who)).contains q.who = true then noted q j b else q }
theorem notedTo_zero (S : St) (j : Nat) (b : Bytes) : notedTo S j b 0 = S := by
  unfold notedTo
  cases S
  simp
theorem notedTo_all (S : St) (j : Nat) (b : Bytes) : notedTo S j b S.recs.length = { S with recs := S.recs.map fun r => noted r j b } := by
  unfold notedTo
  congr 1
  apply List.map_congr_left
  intro q hq
  rw [List.take_length, if_pos]
  simp only [List.contains_eq_mem, decide_eq_true_eq, List.mem_map]
  exact ⟨q, hq, rfl⟩
theorem notedTo_succ {S : St} (nd : (S.recs.map (·.who)).Nodup) (j : Nat) (b : Bytes) {i : Nat} {r : Rec} (hr : S.recs[i]? = some r) : notedTo S j b (i + 1) = setR (notedTo S j b i) r.who (fun q => noted q j b) := by
  unfold notedTo setR
  dsimp only
  congr 1
  rw [List.map_map]
  apply List.map_congr_left
  intro q hq
  have ht : (S.recs.take (i + 1)).map (·.who) = (S.recs.take i).map (·.who) ++ [r.who] := by
    rw [List.take_add_one, hr]; simp
  have hn : r.who ∉ (S.recs.take i).map (·.who) := by
    have h1 : ((S.recs.take (i + 1)).map (·.who)).Nodup := List.Nodup.sublist (List.Sublist.map _ (List.take_sublist _ _)) nd
    rw [ht, List.nodup_append] at h1
    intro hm
    exact h1.2.2 _ hm _ (by simp) rfl
  rw [ht]
  simp only [Function.comp, List.contains_eq_mem, List.mem_append, List.mem_singleton, decide_eq_true_eq]
  by_cases h1 : q.who ∈ (S.recs.take i).map (·.who)
  · have h2 : q.who ≠ r.who := fun e => hn (e ▸ h1)
    rw [if_pos (.inl h1), if_pos h1, (noted_who q j b).1, if_neg h2]
  · rw [if_neg h1]
    by_cases h2 : q.who = r.who
    · rw [if_pos (.inr h2), if_pos h2]
    · rw [if_neg (by rintro (h | h); exact h1 h; exact h2 h), if_neg h2]
theorem nd_get {S : St} (nd : (S.recs.map (·.who)).Nodup) {i : Nat} {r : Rec} (hr : S.recs[i]? = some r) : recAt S r.who = some r := by
  unfold recAt
  have : ∀ (l : List Rec), (l.map (·.who)).Nodup → r ∈ l → l.find? (fun q => q.who == r.who) = some r := by
    intro l
    induction l with
    | nil => intro _ h; cases h
    | cons a t ih =>
      intro nd h
      rw [List.map_cons, List.nodup_cons] at nd
      rw [List.find?_cons]
      by_cases e : a.who = r.who
      · rcases List.mem_cons.mp h with q | q
        · subst q; simp
        · exact absurd (List.mem_map.mpr ⟨r, q, e.symm⟩) nd.1
      · simp only [beq_eq_false_iff_ne.mpr e]
        rcases List.mem_cons.mp h with q | q
        · exact absurd (by rw [q]) e
        · exact ih nd.2 q
  exact this _ nd (List.mem_of_getElem? hr)
theorem notedTo_at {S : St} (nd : (S.recs.map (·.who)).Nodup) (j : Nat) (b : Bytes) {i : Nat} {r : Rec} (hr : S.recs[i]? = some r) : recAt (notedTo S j b i) r.who = some r := by
  have hn : r.who ∉ (S.recs.take i).map (·.who) := by
    have ht : (S.recs.take (i + 1)).map (·.who) = (S.recs.take i).map (·.who) ++ [r.who] := by
      rw [List.take_add_one, hr]; simp
    have h1 : ((S.recs.take (i + 1)).map (·.who)).Nodup := List.Nodup.sublist (List.Sublist.map _ (List.take_sublist _ _)) nd
    rw [ht, List.nodup_append] at h1
    intro hm
    exact h1.2.2 _ hm _ (by simp) rfl
  have key : ∀ (l : List Rec), (l.map fun q => if ((S.recs.take i).map (·.who)).contains q.who = true then noted q j b else q).find? (fun q => q.who == r.who) = l.find? fun q => q.who == r.who := by
    intro l
    induction l with
    | nil => rfl
    | cons a t ih =>
      rw [List.map_cons, List.find?_cons, List.find?_cons]
      by_cases h : ((S.recs.take i).map (·.who)).contains a.who = true
      · rw [if_pos h, (noted_who a j b).1]
        have h' : a.who ∈ (S.recs.take i).map (·.who) := by simpa using h
        have : a.who ≠ r.who := fun e => hn (e ▸ h')
        simp only [beq_eq_false_iff_ne.mpr this, ih]
      · rw [if_neg h]
        by_cases e : a.who = r.who
        · simp [e]
        · simp only [beq_eq_false_iff_ne.mpr e, ih]
  unfold recAt notedTo
  dsimp only
  rw [key]
  exact nd_get nd hr
end My
namespace My
open Sa77
theorem nd_mem {S : St} (nd : (S.recs.map (·.who)).Nodup) {r : Rec} (hr : r ∈ S.recs) : recAt S r.who = some r := by
  obtain ⟨i, hi, e⟩ := List.getElem_of_mem hr
  exact nd_get nd (by rw [List.getElem?_eq_getElem hi, e])
theorem setR_congr {S : St} (nd : (S.recs.map (·.who)).Nodup) {w : Nat} {r : Rec} (h : recAt S w = some r) {f f' : Rec → Rec} (e : f r = f' r) : setR S w f = setR S w f' := by
  unfold setR
  congr 1
  apply List.map_congr_left
  intro q hq
  by_cases z : q.who = w
  · have := nd_mem nd hq
    rw [z, h] at this
    cases this
    rw [if_pos z, if_pos z, e]
  · rw [if_neg z, if_neg z]
theorem setR_id (S : St) (w : Nat) : setR S w (fun q => q) = S := by
  unfold setR
  cases S
  simp
theorem notedTo_nd {S : St} (nd : (S.recs.map (·.who)).Nodup) (j : Nat) (b : Bytes) (i : Nat) : ((notedTo S j b i).recs.map (·.who)).Nodup := by
  unfold notedTo
  show ((S.recs.map _).map _).Nodup
  rw [List.map_map]
  have e : ((fun x : Rec => x.who) ∘ fun (q : Rec) => if ((S.recs.take i).map (·.who)).contains q.who = true then noted q j b else q) = fun x : Rec => x.who := by
    funext q; simp only [Function.comp]; split
    · exact (noted_who q j b).1
    · rfl
  rw [e]; exact nd
theorem close_eq {S : St} {w : Nat} {r : Rec} (h : recAt S w = some r) : close S w = if r.ways ≠ [] then S else if w = S.me then gather { S with recs := S.recs.filter fun q => q.who != w } ⟨S.me, r.much, r.state, r.got⟩ r.num else St.put { S with recs := S.recs.filter fun q => q.who != w } w (.record r.num r.much r.state r.got) := by
  unfold close
  rw [show S.recs.find? (fun r => r.who == w) = some r from h]
theorem gather_no {S : St} {p : Part} {k : Nat} (h : ¬ (k = S.num ∧ S.num ≠ 0 ∧ S.parts.find? (fun q => q.host == p.host) = none)) : gather S p k = S := by
  unfold gather
  rw [if_pos]
  by_cases h1 : k = S.num
  · by_cases h2 : S.num = 0
    · exact .inr (.inl (h1.trans h2))
    · refine .inr (.inr ?_)
      cases e : S.parts.find? (fun q => q.host == p.host) with
      | none => exact absurd ⟨h1, h2, e⟩ h
      | some q =>
        rw [List.any_eq_true]
        exact ⟨q, List.mem_of_find?_eq_some e, by have := List.find?_some e; exact this⟩
  · exact .inl h1
theorem gather_yes {S : St} {p : Part} {k : Nat} (h1 : k = S.num) (h2 : S.num ≠ 0) (h3 : S.parts.find? (fun q => q.host == p.host) = none) : gather S p k = { S with parts := S.parts ++ [p] } := by
  unfold gather
  rw [if_neg]
  rintro (h | h | h)
  · exact h h1
  · exact h2 (h1 ▸ h)
  · rw [List.any_eq_true] at h
    obtain ⟨q, hq, e⟩ := h
    exact List.find?_eq_none.mp h3 q hq e
theorem part_none {S : St} {w : Nat} (h : ∀ p ∈ S.parts, p.host ≠ w) : S.parts.find? (fun q => q.host == w) = none := by
  rw [List.find?_eq_none]
  intro p hp
  have := h p hp
  simpa using this
theorem whole_part {B : Nat} {S : St} (h : Wf B S) (hw : S.whole = true) {k : Nat} (hk : k < S.n) : ∃ p, S.parts.find? (fun q => q.host == k) = some p ∧ (recordBytes p.much p.state p.got).length ≤ 8192 := by
  have hl : S.parts.length = S.n := by unfold St.whole at hw; simpa using hw
  have := pigeon_all h.pnd (n := S.n) (fun k hk => by
    obtain ⟨p, hp, rfl⟩ := List.mem_map.mp hk
    exact (h.part p hp).1) (by rw [List.length_map]; exact hl) hk
  obtain ⟨p, hp, e⟩ := List.mem_map.mp this
  cases f : S.parts.find? (fun q => q.host == k) with
  | none => exact absurd (by simpa using e) (List.find?_eq_none.mp f p hp)
  | some q => exact ⟨q, rfl, (h.part q (List.mem_of_find?_eq_some f)).2⟩
def cutTo (S : St) (i : Nat) : Bytes := (List.range i).flatMap fun k => match S.parts.find? fun p => p.host == k with
  | some p => recordBytes p.much p.state p.got
  | none => []
theorem cutTo_succ {S : St} {i : Nat} {p : Part} (h : S.parts.find? (fun q => q.host == i) = some p) : cutTo S (i + 1) = cutTo S i ++ recordBytes p.much p.state p.got := by
  unfold cutTo
  rw [List.range_succ, List.flatMap_append]
  simp [h]
theorem cutTo_len {S : St} (h : ∀ k, k < S.n → ∃ p, S.parts.find? (fun q => q.host == k) = some p ∧ (recordBytes p.much p.state p.got).length ≤ 8192) : ∀ i, i ≤ S.n → (cutTo S i).length ≤ 8192 * i
  | 0, _ => by simp [cutTo]
  | i + 1, hi => by
    obtain ⟨p, h1, h2⟩ := h i hi
    rw [cutTo_succ h1, List.length_append]
    have := cutTo_len h i (by omega)
    omega
theorem parts_len {B : Nat} {S : St} (h : Wf B S) : S.parts.length ≤ 16 := by
  have := pigeon S.n (S.parts.map (·.host)) h.pnd (fun k hk => by
    obtain ⟨p, hp, rfl⟩ := List.mem_map.mp hk
    exact (h.part p hp).1)
  rw [List.length_map] at this
  have := h.n16
  omega
theorem recs_len {B : Nat} {S : St} (h : Wf B S) : S.recs.length ≤ 16 := by
  have := pigeon S.n (S.recs.map (·.who)) h.rnd (fun k hk => by
    obtain ⟨p, hp, rfl⟩ := List.mem_map.mp hk
    exact (h.rc p hp).who)
  rw [List.length_map] at this
  have := h.n16
  omega
theorem probes_len {B : Nat} {S : St} (h : Wf B S) : S.probes.length ≤ 16 := by
  have := pigeon S.n (S.probes.map (·.1)) h.knd (fun k hk => by
    obtain ⟨p, hp, rfl⟩ := List.mem_map.mp hk
    exact h.kn p hp)
  rw [List.length_map] at this
  have := h.n16
  omega
theorem probe_any {S : St} (nd : (S.probes.map (·.1)).Nodup) (w k : Nat) : (S.probes.any fun p => p.1 == w && decide (k ≤ p.2)) = match S.probes.find? fun p => p.1 == w with
    | none => false
    | some p => decide (k ≤ p.2) := by
  have : ∀ (l : List (Nat × Nat)), (l.map (·.1)).Nodup → (l.any fun p => p.1 == w && decide (k ≤ p.2)) = match l.find? fun p => p.1 == w with
      | none => false
      | some p => decide (k ≤ p.2) := by
    intro l
    induction l with
    | nil => intro _; rfl
    | cons a t ih =>
      intro nd
      rw [List.map_cons, List.nodup_cons] at nd
      rw [List.any_cons, List.find?_cons]
      by_cases e : a.1 = w
      · have h1 : (a.1 == w) = true := by simp [e]
        have h2 : (t.any fun p => p.1 == w && decide (k ≤ p.2)) = false := by
          rw [List.any_eq_false]
          intro p hp hc
          rw [Bool.and_eq_true] at hc
          have : p.1 = w := by simpa using hc.1
          exact nd.1 (by rw [e, ← this]; exact List.mem_map.mpr ⟨p, hp, rfl⟩)
        rw [h1, h2, Bool.true_and, Bool.or_false]
      · have h1 : (a.1 == w) = false := by simp [e]
        rw [h1, Bool.false_and, Bool.false_or, ih nd.2]
  exact this _ nd
end My
namespace My
open Sa77
theorem does_some (S : St) (c : Call) : ∃ S', (does (some S) c).1 = some S' := by
  cases c <;> simp only [does] <;> (repeat' split) <;> exact ⟨_, rfl⟩
theorem told_len (s : Sa77Neutral.S) : ∀ cs : List (List (List Int)), (PyFlat.told (PyFlat.played Sa77Neutral.step s cs)).length = Sa77Neutral.answered s cs + cs.length := by
  intro cs
  induction cs generalizing s with
  | nil => rfl
  | cons c r ih =>
    show (PyFlat.told ((Sa77Neutral.step s c).2 :: PyFlat.played Sa77Neutral.step (Sa77Neutral.step s c).1 r)).length = _
    unfold PyFlat.told
    rw [List.flatMap_cons, List.length_append]
    have := ih (Sa77Neutral.step s c).1
    unfold PyFlat.told at this
    rw [this]
    show _ = (Sa77Neutral.step s c).2.length + Sa77Neutral.answered (Sa77Neutral.step s c).1 r + (r.length + 1)
    simp only [List.length_cons]
    omega
theorem told_cons (s : Sa77Neutral.S) (c : List (List Int)) (r : List (List (List Int))) : PyFlat.told (PyFlat.played Sa77Neutral.step s (c :: r)) = (((Sa77Neutral.step s c).2.length : Nat) : Int) :: ((Sa77Neutral.step s c).2 ++ PyFlat.told (PyFlat.played Sa77Neutral.step (Sa77Neutral.step s c).1 r)) := by
  unfold PyFlat.told
  show ((Sa77Neutral.step s c).2 :: PyFlat.played Sa77Neutral.step (Sa77Neutral.step s c).1 r).flatMap _ = _
  rw [List.flatMap_cons]
  rfl
def okB (me n : Int) : Bool := within n 2 16 && within me 0 (n - 1)
def AbsO (a : Abs) (S : St) (cs : List (List (List Int))) : Prop := (a = some S ∧ Wf 600 S) ∨ (a = none ∧ ∃ me n z rest, cs = [[0, me, n, z]] :: rest ∧ okB me n = true)
def AbsC (a : Abs) (S : St) (c : List (List Int)) : Prop := (a = some S ∧ Wf 600 S) ∨ (a = none ∧ ∃ me n z, c = [[0, me, n, z]] ∧ okB me n = true)
theorem asked_first {l : List (List (List Int))} (h : Sa77Neutral.asked l = true) : l.all Sa77Neutral.asked1 = true ∧ l.length ≤ 400 ∧ Sa77Neutral.answered Sa77Neutral.start l < 1000000 ∧ ∃ me n z rest, l = [[0, me, n, z]] :: rest ∧ okB me n = true := by
  unfold Sa77Neutral.asked at h
  simp only [Bool.and_eq_true, decide_eq_true_eq] at h
  obtain ⟨h1, h2, h3, h4⟩ := h
  refine ⟨h1, h2, h3, ?_⟩
  split at h4
  · next me n a rest =>
    refine ⟨me, n, a, rest, rfl, ?_⟩
    have e : (Sa77Neutral.step Sa77Neutral.start [[0, me, n, a]]).1 = (if (within n 2 16 && within me 0 (n - 1)) = false then (none, ok (-2)) else (some (begun me.toNat n.toNat (a != 0)), ok 0) : Abs × Ans).1 := rfl
    rw [e] at h4
    cases q : okB me n with
    | true => rfl
    | false =>
      have q : (within n 2 16 && within me 0 (n - 1)) = false := q
      rw [if_pos q] at h4
      cases h4
  · cases h4
theorem begin_does (a : Abs) (me n z : Int) : does a (.begin_ me n z) = if okB me n = false then (a, ok (-2)) else (some (begun me.toNat n.toNat (z != 0)), ok 0) := by
  cases a <;> rfl
theorem wf_beg {me n : Int} (z : Int) (h : okB me n = true) : Wf 600 (begun me.toNat n.toNat (z != 0)) := by
  unfold okB at h
  rw [Bool.and_eq_true, within_iff, within_iff] at h
  exact (wf_begun (by omega) (by omega) (by omega)).mono (by omega)
theorem dropI {ns : List Int} {i : Nat} {p : Int} {r : List Int} (h : ns.drop i = p :: r) : ns[i]? = some p ∧ ns.drop (i + 1) = r ∧ i < ns.length := by
  have h1 : ns[i]? = some p := by
    have := congrArg (·[0]?) h
    simpa using this
  refine ⟨h1, ?_, ?_⟩
  · rw [← List.drop_drop, h]; rfl
  · exact (List.getElem?_eq_some_iff.mp h1).1
theorem nats_len (l : List Int) : (Sa77Neutral.nats l).length = l.length := by unfold Sa77Neutral.nats; rw [List.length_map]
theorem nats_lt {l : List Int} (h : l.all (fun (z : Int) => Sa77Neutral.natural z 8) = true) : ∀ x ∈ Sa77Neutral.nats l, x < 256 := by
  intro x hx
  obtain ⟨z, hz, rfl⟩ := List.mem_map.mp hx
  have := List.all_eq_true.mp h z hz
  unfold Sa77Neutral.natural at this
  simp at this
  omega
end My
namespace L2
open PySem PySem.Spec PyProof.Rows
abbrev Key := Sum Int Str
def keyIs : Key → Value → Bool
  | .inl k, v => Value.isInt k v
  | .inr x, v => Value.isStrOf x v
def keyH (w : World) : Key → Int
  | .inl k => hashInt k
  | .inr x => hashStr w x
theorem keyIs_shape : ∀ {k : Key} {v : Value}, keyIs k v = true → (∃ i t, k = Sum.inl i ∧ v = Value.int i t) ∨ (∃ x t, k = Sum.inr x ∧ v = Value.str x t)
  | .inl i, v, h => by
    obtain ⟨t, e⟩ := Value.isInt_shape (k := i) (v := v) h
    exact .inl ⟨i, t, rfl, e⟩
  | .inr x, v, h => by
    obtain ⟨t, e⟩ := Value.isStrOf_shape (x := x) (v := v) h
    exact .inr ⟨x, t, rfl, e⟩
theorem keyIs_int (i : Int) (t : Tok) : keyIs (.inl i) (.int i t) = true := by simp [keyIs, Value.isInt]
theorem keyIs_str (x : Str) (t : Tok) : keyIs (.inr x) (.str x t) = true := by simp [keyIs, Value.isStrOf]
theorem key_ll (a b : Int) : decide ((Sum.inl a : Key) = Sum.inl b) = (a == b) := by
  by_cases e : a = b
  · subst e; simp
  · have h : ¬ (Sum.inl a : Key) = Sum.inl b := fun q => e (Sum.inl.inj q)
    rw [decide_eq_false h]
    exact (beq_eq_false_iff_ne.mpr e).symm
theorem key_rr (a b : Str) : decide ((Sum.inr a : Key) = Sum.inr b) = decide (a = b) := by
  by_cases e : a = b
  · subst e; simp
  · have h : ¬ (Sum.inr a : Key) = Sum.inr b := fun q => e (Sum.inr.inj q)
    rw [decide_eq_false h, decide_eq_false e]
theorem key_lr (a : Int) (b : Str) : decide ((Sum.inl a : Key) = Sum.inr b) = false := decide_eq_false (fun q => nomatch q)
theorem key_rl (a : Str) (b : Int) : decide ((Sum.inr a : Key) = Sum.inl b) = false := decide_eq_false (fun q => nomatch q)
def mixKind (prog : Program) (w : World) : PySem.KeyKind prog w Key where
  is := keyIs
  hash := keyH w
  inj := fun v a b ha hb => by
    rcases keyIs_shape ha with ⟨i, t, rfl, rfl⟩ | ⟨x, t, rfl, rfl⟩
    · rcases keyIs_shape hb with ⟨j, u, rfl, e⟩ | ⟨y, u, rfl, e⟩
      · injection e with e1 _; rw [e1]
      · exact nomatch e
    · rcases keyIs_shape hb with ⟨j, u, rfl, e⟩ | ⟨y, u, rfl, e⟩
      · exact nomatch e
      · injection e with e1 _; rw [e1]
  byValue := fun k v h => by
    rcases keyIs_shape h with ⟨i, t, rfl, rfl⟩ | ⟨x, t, rfl, rfl⟩ <;> rfl
  pyHash := fun hv h => by
    rcases keyIs_shape hv with ⟨i, t, rfl, rfl⟩ | ⟨x, t, rfl, rfl⟩
    · exact wpAny_pyHash_int h
    · exact wpAny_pyHash_str h
  eqBool := fun hu hv h => by
    rcases keyIs_shape hu with ⟨i, t, rfl, rfl⟩ | ⟨x, t, rfl, rfl⟩
    · rcases keyIs_shape hv with ⟨j, u, rfl, rfl⟩ | ⟨y, u, rfl, rfl⟩
      · rw [key_ll] at h; exact wpAny_eqBool_int h
      · rw [key_lr] at h; exact SeqAt.EqAt.int_str i t y u _ _ _ _ h
    · rcases keyIs_shape hv with ⟨j, u, rfl, rfl⟩ | ⟨y, u, rfl, rfl⟩
      · rw [key_rl] at h; exact SeqAt.EqAt.str_int x t j u _ _ _ _ h
      · rw [key_rr] at h; exact wpAny_eqBool_str h
  «strs» := fun k x t v h => by
    rcases keyIs_shape h with ⟨i, u, rfl, e⟩ | ⟨y, u, rfl, e⟩
    · exact nomatch e
    · injection e with e1 _
      subst e1
      cases v <;> rfl
theorem mixKind_int (prog : Program) (w : World) (i : Int) (t : Tok) : (mixKind prog w).is (.inl i) (.int i t) = true := keyIs_int i t
theorem mixKind_str (prog : Program) (w : World) (x : Str) (t : Tok) : (mixKind prog w).is (.inr x) (.str x t) = true := keyIs_str x t
end L2
namespace L2
open PySem PySem.Spec PyProof.Rows
inductive V where
  | non | bl (b : Bool) | int (i : Int) | str (x : Str) | byt (b : Array UInt8) | flt (b : UInt64) | ref (a : Addr) | ty (n : String)
  deriving DecidableEq
def RelV : V → Value → Prop
  | .non, u => u = Value.none
  | .bl b, u => u = Value.bool b
  | .int i, u => ∃ t, u = Value.int i t
  | .str x, u => ∃ t, u = Value.str x t
  | .byt b, u => ∃ t, u = Value.bytes b t
  | .flt b, u => ∃ t, u = Value.float b t
  | .ref a, u => u = Value.ref a
  | .ty n, u => u = Value.type n
abbrev Vals : List V → List Value → Prop := Paired RelV
theorem Vals.length {xs : List V} {us : List Value} (r : Vals xs us) : xs.length = us.length := Paired.length r
theorem Vals.get : ∀ {xs : List V} {us : List Value} {i : Nat} {x : V}, Vals xs us → xs[i]? = some x → ∃ u, us[i]? = some u ∧ RelV x u
  | _, _, _, _, .nil, e => by simp at e
  | _, _, 0, _, .cons r _, e => by simp at e; subst e; exact ⟨_, rfl, r⟩
  | _, _, i + 1, x, .cons _ t, e => by
    obtain ⟨u, h1, h2⟩ := Vals.get (i := i) (x := x) t (by simpa using e)
    exact ⟨u, by simpa using h1, h2⟩
theorem Vals.set {x : V} {u : Value} (r : RelV x u) : ∀ {xs : List V} {us : List Value} (i : Nat), Vals xs us → Vals (xs.set i x) (us.set i u)
  | _, _, _, .nil => .nil
  | _, _, 0, .cons _ t => .cons r t
  | _, _, i + 1, .cons q t => .cons q (Vals.set r i t)
theorem Vals.append : ∀ {xs ys : List V} {us ws : List Value}, Vals xs us → Vals ys ws → Vals (xs ++ ys) (us ++ ws)
  | _, _, _, _, .nil, s => s
  | _, _, _, _, .cons r t, s => .cons r (Vals.append t s)
theorem Vals.take : ∀ {xs : List V} {us : List Value} (n : Nat), Vals xs us → Vals (xs.take n) (us.take n)
  | _, _, 0, _ => .nil
  | _, _, _ + 1, .nil => .nil
  | _, _, n + 1, .cons r t => .cons r (Vals.take n t)
theorem Vals.drop : ∀ {xs : List V} {us : List Value} (n : Nat), Vals xs us → Vals (xs.drop n) (us.drop n)
  | _, _, 0, r => r
  | _, _, _ + 1, .nil => .nil
  | _, _, n + 1, .cons _ t => Vals.drop n t
def RelO : Option V → Option Value → Prop
  | some v, some u => RelV v u
  | none, none => True
  | _, _ => False
def KV {κ : Type} : List (κ × V) → List (κ × Value) → Prop := Paired fun (p : κ × V) (q : κ × Value) => p.1 = q.1 ∧ RelV p.2 q.2
def kV : Key → V
  | .inl i => .int i
  | .inr x => .str x
inductive HO where
  /-- a list -/
  | lst (xs : List V)
  /-- a tuple (never changes) -/
  | tup (xs : List V)
  /-- a dict whose keys are ints and texts; one whose keys are tuples of ints and texts (the empty one is both) -/
  | dK (kvs : List (Key × V)) | dT (kvs : List (List Key × V))
  /-- a set of ints: its members, its size -/
  | set (S : Int → Bool) (n : Nat)
  /-- an instance of the class at C, its dict at dx, its attributes -/
  | ins (C dx : Addr) (fs : List (Str × V))
  /-- the dict of the instance at x -/
  | own (x : Addr)
  /-- the dict of an exception -/
  | xd (fs : List (Str × V))
  /-- a bound method, f of x -/
  | met (f x : Addr)
  /-- a range object lo, lo + 1, .. below hi -/
  | rng (lo hi : Int)
  /-- a thing that is known to the object (the script; a dict while a loop walks it): read, never written while it is so -/
  | frz (o : Obj) (u : HO)
  /-- a code object's table -/
  | tbl (ps : Array Value)
  /-- any other thing, by what is true of its one object (a def of one's own: SetO a S n := HO.ext fun h => ..) -/
  | ext (φ : Heap → Prop)
abbrev Hp := Addr → Option HO
def upd (H : Hp) (a : Addr) (o : HO) : Hp := fun b => if b = a then some o else H b
theorem upd_same {H : Hp} {a : Addr} {o : HO} : upd H a o a = some o := by unfold upd; rw [if_pos rfl]
theorem upd_ne {H : Hp} {a b : Addr} {o : HO} (h : b ≠ a) : upd H a o b = H b := by unfold upd; rw [if_neg h]
theorem upd_upd {H : Hp} {a : Addr} {o u : HO} : upd (upd H a o) a u = upd H a u := by
  funext b; unfold upd; split <;> rfl
theorem ne_of {H : Hp} {a b : Addr} {o u : HO} (h : H a = some o) (h' : H b = some u) (d : o ≠ u) : a ≠ b := by
  intro e; subst e; rw [h] at h'; exact d (Option.some.inj h')
theorem ne_of_none {H : Hp} {a b : Addr} {o : HO} (h : H a = some o) (h' : H b = none) : a ≠ b := by
  intro e; subst e; rw [h] at h'; cases h'
section
variable (P : Program) (w : World)
def ObjOk (H : Hp) (h : Heap) (a : Addr) : HO → Prop
  | .lst xs => xs.length ≤ sizeLine ∧ ∃ (its : List Value) (n : Nat), Vals xs its ∧ h.get? a = some { cls := .type "list", data := .seq its.toArray n }
  | .tup xs => xs.length ≤ sizeLine ∧ ∃ its : List Value, Vals xs its ∧ IsTup h a its.toArray
  | .dK kvs => kvs.length ≤ sizeLine ∧ (a == sysModules) = false ∧ ∃ vs, KV kvs vs ∧ h.DictOf (mixKind P w) a vs
  | .dT kvs => kvs.length ≤ sizeLine ∧ (a == sysModules) = false ∧ ∃ xs : List (List Key × Addr × Value),
      Paired (fun (p : List Key × V) (q : List Key × Addr × Value) => p.1 = q.1 ∧ H q.2.1 = some (.tup (p.1.map kV)) ∧ RelV p.2 q.2.2) kvs xs ∧
      ∃ o es ep, h.get? a = some o ∧ o.ExactDict ∧ o.data = .dict es ep ∧ es.toList = xs.map (entryOfKey (tupleKind (mixKind P w))) ∧ (xs.map (·.1)).Nodup
  | .set S n => h.SetOf (intKind P w) a S n
  | .ins C dx fs => H dx = some (.own a) ∧ fs.length ≤ 1000 ∧ dx ≠ a ∧ h.get? a = some (PySem.W.instObj C dx) ∧
      ∃ mA, h.Ns1 dx mA ∧ (∀ f, RelO (fs.lookup f) (mA f)) ∧ PySem.Within mA (fs.map (·.1))
  | .own _ => ∃ o, h.get? a = some o
  | .xd fs => ∃ mA, h.Ns1 a mA ∧ ∀ f, RelO (fs.lookup f) (mA f)
  | .rng lo hi => ∃ t u v, h.get? a = some { cls := .type "range", data := .fields #[.int lo t, .int hi u, .int 1 v] }
  | .frz o u => h.get? a = some o ∧ ObjOk H h a u
  | .tbl ps => h.get? a = some { cls := .none, data := .fields ps }
  | .met f x => h.get? a = some (PySem.W.methodObj (.ref f) (.ref x))
  | .ext φ => φ h ∧ (∃ o, h.get? a = some o) ∧ ∀ h1 h2 : Heap, φ h1 → (∀ o, h1.get? a = some o → h2.get? a = some o) → φ h2
def HOk (H : Hp) (h : Heap) : Prop := ∀ a o, H a = some o → ObjOk P w H h a o
end
section
variable {P : Program} {w : World} {H H' : Hp} {h h' : Heap} {a : Addr} {o : HO}
theorem ObjOk.lt (x : ObjOk P w H h a o) : a < h.objs.size := by
  cases o with
  | lst xs => obtain ⟨_, _, _, _, e⟩ := x; exact Heap.lt_size e
  | tup xs => obtain ⟨_, _, _, p⟩ := x; exact p.lt
  | dK kvs => obtain ⟨_, _, _, _, o, _, _, e, _⟩ := x; exact Heap.lt_size e
  | dT kvs => obtain ⟨_, _, _, _, o, _, _, e, _⟩ := x; exact Heap.lt_size e
  | set S n => obtain ⟨o, _, _, _, e, _⟩ := x; exact Heap.lt_size e
  | ins C dx fs => obtain ⟨_, _, _, e, _⟩ := x; exact Heap.lt_size e
  | own y => obtain ⟨_, e⟩ := x; exact Heap.lt_size e
  | xd fs => obtain ⟨_, ⟨_, _, _, e, _⟩, _⟩ := x; exact Heap.lt_size e
  | rng lo hi => obtain ⟨_, _, _, e⟩ := x; exact Heap.lt_size e
  | frz ob u => obtain ⟨e, _⟩ := x; exact Heap.lt_size e
  | tbl ps => exact Heap.lt_size (show h.get? a = some _ from x)
  | met f y => exact Heap.lt_size (show h.get? a = some _ from x)
  | ext φ => obtain ⟨_, ⟨_, e⟩, _⟩ := x; exact Heap.lt_size e
theorem Paired.mapP {α β : Type} {F G : α → β → Prop} : ∀ {l₁ : List α} {l₂ : List β}, Paired F l₁ l₂ → (∀ a b, F a b → G a b) → Paired G l₁ l₂
  | _, _, .nil, _ => .nil
  | _, _, .cons r t, f => .cons (f _ _ r) (Paired.mapP t f)
theorem ObjOk.stay (x : ObjOk P w H h a o) (k : ∀ b u, (b = a ∨ H b = some (.own a)) → h.get? b = some u → h'.get? b = some u)
    (ho : ∀ b, H b = some (.own a) → H' b = some (.own a)) (ht : ∀ b xs, H b = some (.tup xs) → H' b = some (.tup xs)) : ObjOk P w H' h' a o := by
  induction o with
  | lst xs => obtain ⟨z, its, n, r, e⟩ := x; exact ⟨z, its, n, r, k _ _ (.inl rfl) e⟩
  | tup xs => obtain ⟨z, its, r, ob, e, c⟩ := x; exact ⟨z, its, r, ob, k _ _ (.inl rfl) e, c⟩
  | dK kvs => obtain ⟨z, y, vs, r, ob, es, ep, e, c⟩ := x; exact ⟨z, y, vs, r, ob, es, ep, k _ _ (.inl rfl) e, c⟩
  | dT kvs =>
    obtain ⟨z, y, xs, r, ob, es, ep, e, c⟩ := x
    exact ⟨z, y, xs, Paired.mapP r fun p q z => ⟨z.1, ht _ _ z.2.1, z.2.2⟩, ob, es, ep, k _ _ (.inl rfl) e, c⟩
  | set S n => obtain ⟨ob, es, ep, t, e, c⟩ := x; exact ⟨ob, es, ep, t, k _ _ (.inl rfl) e, c⟩
  | ins C dx fs =>
    obtain ⟨d, z, ne, e, mA, ⟨od, es, ep, e2, c⟩, r⟩ := x
    exact ⟨ho _ d, z, ne, k _ _ (.inl rfl) e, mA, ⟨od, es, ep, k _ _ (.inr d) e2, c⟩, r⟩
  | own y => obtain ⟨ob, e⟩ := x; exact ⟨ob, k _ _ (.inl rfl) e⟩
  | xd fs => obtain ⟨mA, ⟨od, es, ep, e, c⟩, r⟩ := x; exact ⟨mA, ⟨od, es, ep, k _ _ (.inl rfl) e, c⟩, r⟩
  | rng lo hi => obtain ⟨t, u, v, e⟩ := x; exact ⟨t, u, v, k _ _ (.inl rfl) e⟩
  | frz ob u ih => obtain ⟨e, q⟩ := x; exact ⟨k _ _ (.inl rfl) e, ih q⟩
  | tbl ps =>
    have e : h.get? a = some { cls := .none, data := .fields ps } := x
    show h'.get? a = some { cls := .none, data := .fields ps }
    exact k a _ (.inl rfl) e
  | met f y =>
    have e : h.get? a = some (PySem.W.methodObj (.ref f) (.ref y)) := x
    show h'.get? a = some (PySem.W.methodObj (.ref f) (.ref y))
    exact k a _ (.inl rfl) e
  | ext φ => obtain ⟨p, ⟨o, e⟩, st⟩ := x; exact ⟨st _ _ p fun o q => k _ _ (.inl rfl) q, ⟨o, k _ _ (.inl rfl) e⟩, st⟩
theorem HOk.lt (x : HOk P w H h) (e : H a = some o) : a < h.objs.size := (x a o e).lt
theorem HOk.fresh (x : HOk P w H h) (e : h.objs.size ≤ a) : H a = none := by
  cases q : H a with
  | none => rfl
  | some u => exact absurd (Nat.lt_of_lt_of_le (x.lt q) e) (Nat.lt_irrefl _)
theorem HOk.kept (x : HOk P w H h) (k : ∀ b u, h.get? b = some u → h'.get? b = some u) : HOk P w H h' := fun a o e =>
  (x a o e).stay (fun b u _ q => k b u q) (fun _ q => q) fun _ _ q => q
theorem HOk.laid (x : HOk P w H h) (k : ∀ b u, h.get? b = some u → h'.get? b = some u) (hp : h.objs.size ≤ a) (new : ObjOk P w (upd H a o) h' a o) : HOk P w (upd H a o) h' := fun b u e => by
  have hn := x.fresh hp
  by_cases hb : b = a
  · subst hb; rw [upd_same] at e; cases e; exact new
  · rw [upd_ne hb] at e
    exact (x b u e).stay (fun c v _ q => k c v q) (fun c q => by rw [upd_ne (ne_of_none q hn)]; exact q) fun c xs q => by rw [upd_ne (ne_of_none q hn)]; exact q
end
def Rd (H : Hp) (a : Addr) (u : HO) : Prop := H a = some u ∨ ∃ o, H a = some (.frz o u)
theorem Rd.ok {P : Program} {w : World} {H : Hp} {h : Heap} {a : Addr} {u : HO} (r : Rd H a u) (x : HOk P w H h) : ObjOk P w H h a u := by
  rcases r with r | ⟨o, r⟩
  · exact x a u r
  · obtain ⟨_, q⟩ := x a _ r
    exact q
def Mut : Option HO → Prop
  | some (.lst _) => True
  | some (.dK _) => True
  | some (.dT _) => True
  | some (.set _ _) => True
  | some (.ins _ _ _) => True
  | some (.ext _) => True
  | _ => False
section
variable {P : Program} {w : World} {H : Hp} {h h' : Heap} {x e : Addr} {o' : HO}
theorem HOk.write (ok : HOk P w H h) (mu : Mut (H x)) (he : e = x ∨ H e = some (.own x)) (k : ∀ b u, b ≠ e → h.get? b = some u → h'.get? b = some u) (heo : ∃ u, h'.get? e = some u)
    (new : ObjOk P w (upd H x o') h' x o') : HOk P w (upd H x o') h' := fun b u q => by
  have nown : ∀ c y, H c = some (.own y) → c ≠ x := fun c y r z => by subst z; rw [r] at mu; exact mu
  have ntup : ∀ c xs, H c = some (.tup xs) → c ≠ x := fun c xs r z => by subst z; rw [r] at mu; exact mu
  by_cases hb : b = x
  · subst hb; rw [upd_same] at q; cases q; exact new
  · rw [upd_ne hb] at q
    by_cases hbe : b = e
    · have q' : H b = some (.own x) := by
        rcases he with z | z
        · exact absurd (hbe.trans z) hb
        · rw [hbe]; exact z
      rw [q] at q'; cases q'
      obtain ⟨v, hv⟩ := heo
      exact ⟨v, by rw [hbe]; exact hv⟩
    · refine (ok b u q).stay (fun c v hc r => k c v ?_ r) (fun c r => by rw [upd_ne (nown c b r)]; exact r) fun c xs r => by rw [upd_ne (ntup c xs r)]; exact r
      rcases hc with rfl | hc
      · exact hbe
      · rintro rfl
        rcases he with z | z
        · exact nown c b hc z
        · rw [hc] at z; cases z; exact hb rfl
end
structure Un (fs ex : List Addr) (H H' : Hp) (h h' : Heap) : Prop where
  keep : ∀ b o, h.get? b = some o → H b = none → b ∉ fs → b ∉ ex → h'.get? b = some o
  slot : ∀ b o, h.get? b = some o → H b = none → b ∈ fs → b ∉ ex → ∃ sl, h'.get? b = some { o with slots := sl }
  free : ∀ b o, h.get? b = some o → H b = none → b ∉ ex → H' b = none
  there : ∀ b o, h.get? b = some o → b ∉ ex → ∃ o', h'.get? b = some o'
  tups : ∀ b xs, H b = some (.tup xs) → H' b = some (.tup xs)
  frzs : ∀ b o u, H b = some (.frz o u) → H' b = some (.frz o u)
  tbls : ∀ b ps, H b = some (.tbl ps) → ∃ more, H' b = some (.tbl (ps ++ more))
section
variable {fs fs' ex ex' : List Addr} {H H1 H2 : Hp} {h h1 h2 h' : Heap} {a x e : Addr} {o : HO}
theorem Un.any (u : Un fs ex H H1 h h1) {b : Addr} {ob : Obj} (q : h.get? b = some ob) (n : H b = none) (hx : b ∉ ex) : ∃ sl, h1.get? b = some { ob with slots := sl } := by
  by_cases hb : b ∈ fs
  · exact u.slot b ob q n hb hx
  · exact ⟨ob.slots, u.keep b ob q n hb hx⟩
theorem Un.kept (k : ∀ b u, h.get? b = some u → h'.get? b = some u) : Un fs ex H H h h' :=
  ⟨fun b ob q _ _ _ => k b ob q, fun b ob q _ _ _ => ⟨ob.slots, k b ob q⟩, fun _ _ _ n _ => n, fun b ob q _ => ⟨ob, k b ob q⟩, fun _ _ q => q, fun _ _ _ q => q, fun _ ps q => ⟨#[], by rw [q]; simp⟩⟩
theorem Un.refl : Un fs ex H H h h := Un.kept fun _ _ q => q
theorem Un.laid (k : ∀ b u, h.get? b = some u → h'.get? b = some u) (hp : h.objs.size ≤ a) (hn : H a = none) : Un fs ex H (upd H a o) h h' where
  keep := fun b u q _ _ _ => k b u q
  slot := fun b u q _ _ _ => ⟨u.slots, k b u q⟩
  free := fun b u q n _ => by rw [upd_ne (Nat.ne_of_lt (Nat.lt_of_lt_of_le (Heap.lt_size q) hp))]; exact n
  there := fun b u q _ => ⟨u, k b u q⟩
  tups := fun b xs q => by rw [upd_ne (ne_of_none q hn)]; exact q
  frzs := fun b u xs q => by rw [upd_ne (ne_of_none q hn)]; exact q
  tbls := fun b ps q => ⟨#[], by rw [upd_ne (ne_of_none q hn), q]; simp⟩
theorem Un.write (mu : Mut (H x)) (he : e = x ∨ H e = some (.own x)) (k : ∀ b u, b ≠ e → h.get? b = some u → h'.get? b = some u) (heo : ∃ u, h'.get? e = some u) : Un fs ex H (upd H x o) h h' := by
  have hx : ∀ b, H b = none → b ≠ x := fun b n z => by subst z; rw [n] at mu; exact mu
  have hb : ∀ b, H b = none → b ≠ e := fun b n z => by
    subst z
    rcases he with r | r
    · exact hx b n r
    · rw [n] at r; cases r
  have hm : ∀ b u, H b = some u → ¬ Mut (some u) → b ≠ x := fun b u q nm z => by subst z; rw [q] at mu; exact nm mu
  refine ⟨fun b u q n _ _ => k b u (hb b n) q, fun b u q n _ _ => ⟨u.slots, k b u (hb b n) q⟩, fun b u q n _ => by rw [upd_ne (hx b n)]; exact n, fun b u q _ => ?_,
    fun b xs q => by rw [upd_ne (hm b _ q fun z => z)]; exact q, fun b u xs q => by rw [upd_ne (hm b _ q fun z => z)]; exact q, fun b ps q => ⟨#[], by rw [upd_ne (hm b _ q fun z => z), q]; simp⟩⟩
  by_cases hbe : b = e
  · subst hbe; exact heo
  · exact ⟨u, k b u hbe q⟩
end
def trk (h : Heap) (H : Hp) : List Addr := (List.range h.objs.size).filter fun a => (H a).isSome
def hidT (h : Heap) (H : Hp) : Heap := PySem.W.hideAll h (trk h H)
theorem hidT_size (h : Heap) (H : Hp) : (hidT h H).objs.size = h.objs.size := PySem.W.hideAll_size _ _
theorem hidT_get {h : Heap} {H : Hp} {b : Addr} {o : Obj} (e : h.get? b = some o) (n : H b = none) : (hidT h H).get? b = some o :=
  PySem.W.hideAll_get _ e fun hm => by
    have q : (H b).isSome = true := (List.mem_filter.mp hm).2
    rw [n] at q; simp at q
theorem of_hidT {h : Heap} {H : Hp} {b : Addr} {o : Obj} (e : (hidT h H).get? b = some o) : h.get? b = some o ∧ H b = none := by
  have e' : h.get? b = some o := PySem.W.of_hideAll (trk h H) e
  refine ⟨e', ?_⟩
  cases q : H b with
  | none => rfl
  | some x =>
    have hm : b ∈ trk h H := List.mem_filter.mpr ⟨List.mem_range.mpr (Heap.lt_size e'), by simp [q]⟩
    have z : (hidT h H).get? b = none := PySem.W.hideAll_none (trk h H) hm
    rw [z] at e; cases e
end L2
namespace L2
open PySem PySem.Spec PyProof.Rows
structure Mod (K : PySem.W.Frag) (mg : Str → Option Value) (base : Heap) : Prop where
  kin : K.In base
  glob : base.Ns mainGlobals mg
  blt : ∃ mb, base.Ns builtinsNs mb ∧ ∀ x : Str, x ≠ "__name__" → mb x = bootBuiltins x
  nolimit : base.NoLimit
structure Cx where
  prog : Program
  w : World
  K : PySem.W.Frag
  mg : Str → Option Value
  base : Heap
  A : Around
  N : List Str
  s₀ : Shared
  H₀ : Hp
  env : Env
  outer : List Env
  stack : List Env
  ex : List Addr
  fn : Str → Bool
  calm : Bool
  pn : List (Addr × Obj)
  xe : Value → Shared → Prop
def frs (l : List Env) : List Addr := l.filterMap (·.frame)
abbrev Cx.fs (X : Cx) : List Addr := frs X.outer
def Vis (sc : Scope) (x : Str) : Prop := sc.names.lookup x = some .local ∨ sc.names.lookup x = some .cell ∨ sc.names.lookup x = some .free
def Loc (sc : Scope) (x : Str) : Prop := sc.names.lookup x = some .local ∨ sc.names.lookup x = some .cell
def Look (env : Env) (h : Heap) (m : Str → Option Value) (x : Str) (u : Value) : Prop :=
  (env.kindOf x = some .local ∧ m x = some u) ∨ ((env.kindOf x = some .cell ∨ env.kindOf x = some .free) ∧ ∃ c, env.cells.lookup x = some c ∧ h.IsCell c (some u))
structure Cx.Ok (X : Cx) : Prop where
  mod : Mod X.K X.mg X.base
  kind : X.env.scope.kind = .function
  glob : X.env.globals = mainGlobals
  blt : X.env.builtins = builtinsNs
  above : X.s₀.heap.objs.size ≤ X.env.locals
  inj : ∀ x y c, X.env.cells.lookup x = some c → X.env.cells.lookup y = some c → x = y
  has : ∀ x, (X.env.kindOf x = some .cell ∨ X.env.kindOf x = some .free) → ∃ c, X.env.cells.lookup x = some c
  cab : ∀ x c, X.fn x = true → X.env.cells.lookup x = some c → X.s₀.heap.objs.size ≤ c
  hd : X.calm = true → X.A.handled = none
  frames : X.A.frames = some X.stack
  stk : X.stack = X.outer ∨ (X.stack = X.env :: X.outer ∧ X.env.frame = some X.env.locals)
  exf : ∀ b ∈ X.ex, b ≠ X.env.locals ∧ ∀ x c, X.env.cells.lookup x = some c → c ≠ b
  bs : ∀ b o, X.base.get? b = some o → X.s₀.heap.get? b = some o ∧ X.H₀ b = none
  bsz : X.base.objs.size ≤ X.s₀.heap.objs.size
  noex : ∀ b o, X.base.get? b = some o → b ∉ X.ex
  exfs : ∀ b ∈ X.ex, b ∉ X.fs
  funs : X.s₀.heap.FunFrames X.base X.outer
  frf : ∀ b ∈ X.fs, X.H₀ b = none
structure Inv (X : Cx) (pins : List (Addr × Obj)) (σ : List (Option V)) (H : Hp) (s : Shared) : Prop where
  ok : X.Ok
  os : s.os = X.s₀.os
  bare : AllBare s.gens
  base : Un X.fs X.ex X.H₀ H X.s₀.heap s.heap
  loc : ∃ m, s.heap.Ns X.env.locals m ∧ ∀ (i : Nat) (x : Str) (v : V), X.N[i]? = some x → σ[i]? = some (some v) → Vis X.env.scope x → ∃ u, RelV v u ∧ Look X.env s.heap m x u
  cell : ∀ x c, X.env.cells.lookup x = some c → ∃ v, s.heap.IsCell c v
  free : H X.env.locals = none
  freeC : ∀ x c, X.env.cells.lookup x = some c → H c = none
  pin : ∀ p ∈ X.pn ++ pins, s.heap.get? p.1 = some p.2 ∧ H p.1 = none ∧ p.1 ≠ X.env.locals ∧ p.1 ∉ X.fs ∧ ∀ v, p.2.data ≠ .cell v
  hok : HOk X.prog X.w H s.heap
  len : σ.length = X.N.length
section
variable {X : Cx} {pins : List (Addr × Obj)} {σ : List (Option V)} {H H' : Hp} {s : Shared} {h' : Heap}
theorem Cx.Ok.nofr (ok : X.Ok) {b : Addr} {o : Obj} (e : X.base.get? b = some o) : b ∉ X.fs := fun hb => by
  have := (ok.funs.mem hb).1
  rw [e] at this; cases this
theorem Inv.bs (I : Inv X pins σ H s) : ∀ b o, X.base.get? b = some o → s.heap.get? b = some o ∧ H b = none := fun b o e =>
  ⟨I.base.keep b o (I.ok.bs b o e).1 (I.ok.bs b o e).2 (I.ok.nofr e) (I.ok.noex b o e), I.base.free b o (I.ok.bs b o e).1 (I.ok.bs b o e).2 (I.ok.noex b o e)⟩
theorem Inv.bk (I : Inv X pins σ H s) : ∀ b o, X.base.get? b = some o → s.heap.get? b = some o := fun b o e => (I.bs b o e).1
theorem Inv.mod (I : Inv X pins σ H s) : Mod X.K X.mg X.base := I.ok.mod
theorem Inv.kIn (I : Inv X pins σ H s) : X.K.In s.heap := I.ok.mod.kin.keeps I.bk
theorem Inv.lt (I : Inv X pins σ H s) : X.env.locals < s.heap.objs.size := let ⟨_, hn, _⟩ := I.loc; hn.lt
theorem Inv.sz (I : Inv X pins σ H s) : X.s₀.heap.objs.size ≤ s.heap.objs.size := Nat.le_trans I.ok.above (Nat.le_of_lt I.lt)
theorem Inv.nofs (I : Inv X pins σ H s) {a : Addr} (h : s.heap.objs.size ≤ a) : a ∉ X.fs := fun hb => by
  obtain ⟨_, o, ho, _⟩ := I.ok.funs.mem hb
  exact absurd (Nat.lt_of_lt_of_le (Heap.lt_size ho) (Nat.le_trans I.sz h)) (Nat.lt_irrefl _)
theorem Inv.cne (I : Inv X pins σ H s) : ∀ x c, X.env.cells.lookup x = some c → c ≠ X.env.locals := fun x c e z => by
  obtain ⟨v, o, ho, hd⟩ := I.cell x c e
  obtain ⟨m, ⟨o', es, ep, ho', hd', _⟩, _⟩ := I.loc
  rw [z, ho'] at ho; cases ho; rw [hd'] at hd; cases hd
theorem Inv.funs (I : Inv X pins σ H s) : s.heap.FunFrames X.base X.outer := by
  have all : ∀ (l : List Env), (∀ b ∈ frs l, b ∈ X.fs) → X.s₀.heap.FunFrames X.base l → s.heap.FunFrames X.base l := by
    intro l
    induction l with
    | nil => intro _ _; trivial
    | cons env r ih =>
      intro hs hl
      obtain ⟨hk, ⟨L, o, hf, hn, ho, hd⟩, hr⟩ := hl
      have hL : L ∈ X.fs := hs L (by unfold frs; rw [List.filterMap_cons, hf]; exact List.mem_cons_self)
      obtain ⟨sl, e⟩ := I.base.slot L o ho (I.ok.frf L hL) hL fun z => I.ok.exfs L z hL
      exact ⟨hk, ⟨L, _, hf, hn, e, hd⟩, ih (fun b hb => hs b (by unfold frs; rw [List.filterMap_cons, hf]; exact List.mem_cons_of_mem _ hb)) hr⟩
  exact all X.outer (fun _ hb => hb) I.ok.funs
theorem Inv.stack (I : Inv X pins σ H s) : s.heap.FunFrames X.base X.stack := by
  rcases I.ok.stk with e | ⟨e, hf⟩
  · rw [e]; exact I.funs
  · rw [e]
    obtain ⟨m, hn, _⟩ := I.loc
    refine .cons (by rw [I.ok.kind]; decide) hf hn ?_ I.funs
    exact Heap.get?_none_of_le (Nat.le_trans I.ok.bsz I.ok.above)
theorem Inv.stkSub (I : Inv X pins σ H s) : ∀ b ∈ frs X.stack, b ∈ X.env.locals :: X.fs := fun b hb => by
  rcases I.ok.stk with e | ⟨e, hf⟩
  · rw [e] at hb; exact List.mem_cons_of_mem _ hb
  · rw [e] at hb
    unfold frs at hb
    rw [List.filterMap_cons, hf] at hb
    exact hb
theorem Inv.stkFree (I : Inv X pins σ H s) : ∀ b ∈ frs X.stack, H b = none := fun b hb => by
  rcases List.mem_cons.mp (I.stkSub b hb) with e | hb
  · rw [e]; exact I.free
  · obtain ⟨_, o, ho, _⟩ := I.ok.funs.mem hb
    exact I.base.free b o ho (I.ok.frf b hb) fun z => I.ok.exfs b z hb
theorem Inv.step {g' : Array GenState} {t' : Nat} {d' : Drawn} {ch : List Addr} (I : Inv X pins σ H s)
    (hch : ∀ b ∈ ch, (b ∈ X.ex ∨ X.s₀.heap.objs.size ≤ b) ∧ b ≠ X.env.locals ∧ (∀ x c, X.env.cells.lookup x = some c → c ≠ b) ∧ ∀ p ∈ X.pn ++ pins, p.1 ≠ b)
    (keep : ∀ b o, b ≠ X.env.locals → b ∉ X.fs → b ∉ ch → s.heap.get? b = some o → H b = none → h'.get? b = some o)
    (slot : ∀ b o, b ≠ X.env.locals → b ∈ X.fs → b ∉ ch → s.heap.get? b = some o → H b = none → ∃ sl, h'.get? b = some { o with slots := sl }) (free : ∀ b o, b ∉ ch → s.heap.get? b = some o → H b = none → H' b = none)
    (there : ∀ b o, b ∉ ch → s.heap.get? b = some o → ∃ o', h'.get? b = some o')
    (tups : ∀ b xs, H b = some (.tup xs) → H' b = some (.tup xs)) (frzs : ∀ b o u, H b = some (.frz o u) → H' b = some (.frz o u)) (tbls : ∀ b ps, H b = some (.tbl ps) → ∃ more, H' b = some (.tbl (ps ++ more)))
    (ns : ∀ m, s.heap.Ns X.env.locals m → h'.Ns X.env.locals m) (hok : HOk X.prog X.w H' h') (hg : AllBare g') :
    Inv X pins σ H' { s with heap := h', gens := g', drawn := d', toks := t' } := by
  have neL : ∀ b o, X.s₀.heap.get? b = some o → b ≠ X.env.locals := fun b o e => Nat.ne_of_lt (Nat.lt_of_lt_of_le (Heap.lt_size e) I.ok.above)
  have neC : ∀ b o, X.s₀.heap.get? b = some o → b ∉ X.ex → b ∉ ch := fun b o e hx hb => by
    rcases (hch b hb).1 with z | z
    · exact hx z
    · exact absurd (Nat.lt_of_lt_of_le (Heap.lt_size e) z) (Nat.lt_irrefl _)
  have cellK : ∀ x c, X.env.cells.lookup x = some c → ∀ v, s.heap.IsCell c v → h'.IsCell c v := fun x c e v ⟨o, ho, hd⟩ => by
    have nch : c ∉ ch := fun z => (hch c z).2.2.1 x c e rfl
    by_cases hc : c ∈ X.fs
    · obtain ⟨sl, q⟩ := slot c o (I.cne x c e) hc nch ho (I.freeC x c e)
      exact ⟨_, q, hd⟩
    · exact ⟨o, keep c o (I.cne x c e) hc nch ho (I.freeC x c e), hd⟩
  refine ⟨I.ok, I.os, hg, ⟨fun b o e n hb hx => ?_, fun b o e n hb hx => ?_, fun b o e n hx => ?_, fun b o e hx => ?_, fun b xs e => tups b xs (I.base.tups b xs e), fun b o xs e => frzs b o xs (I.base.frzs b o xs e), fun b ps e => ?_⟩, ?_, fun x c e => ?_, ?_, fun x c e => ?_, fun p hp => ?_, hok, I.len⟩
  · exact keep b o (neL b o e) hb (neC b o e hx) (I.base.keep b o e n hb hx) (I.base.free b o e n hx)
  · obtain ⟨sl, e1⟩ := I.base.slot b o e n hb hx
    obtain ⟨sl', e2⟩ := slot b _ (neL b o e) hb (neC b o e hx) e1 (I.base.free b o e n hx)
    exact ⟨sl', e2⟩
  · obtain ⟨o', e1⟩ := I.base.there b o e hx
    exact free b o' (neC b o e hx) e1 (I.base.free b o e n hx)
  · obtain ⟨o', e1⟩ := I.base.there b o e hx
    exact there b o' (neC b o e hx) e1
  · obtain ⟨m1, e1⟩ := I.base.tbls b ps e
    obtain ⟨m2, e2⟩ := tbls b _ e1
    exact ⟨m1 ++ m2, by rw [e2, Array.append_assoc]⟩
  · obtain ⟨m, hn, hl⟩ := I.loc
    refine ⟨m, ns m hn, fun i x v e1 e2 e3 => ?_⟩
    obtain ⟨u, r, l⟩ := hl i x v e1 e2 e3
    refine ⟨u, r, ?_⟩
    rcases l with l | ⟨k, c, e, z⟩
    · exact .inl l
    · exact .inr ⟨k, c, e, cellK x c e _ z⟩
  · obtain ⟨v, z⟩ := I.cell x c e
    exact ⟨v, cellK x c e v z⟩
  · obtain ⟨m, ⟨o, _, _, ho, _⟩, _⟩ := I.loc
    exact free _ o (fun z => (hch _ z).2.1 rfl) ho I.free
  · obtain ⟨v, o, ho, hd⟩ := I.cell x c e
    exact free c o (fun z => (hch c z).2.2.1 x c e rfl) ho (I.freeC x c e)
  · obtain ⟨e, n, ne, nf, d⟩ := I.pin p hp
    have nch : p.1 ∉ ch := fun z => (hch p.1 z).2.2.2 p hp rfl
    exact ⟨keep p.1 p.2 ne nf nch e n, free p.1 p.2 nch e n, ne, nf, d⟩
theorem Inv.un {t' : Nat} (I : Inv X pins σ H s) (u : Un X.fs [] H H' s.heap h') (hok : HOk X.prog X.w H' h') : Inv X pins σ H' { s with heap := h', toks := t' } := by
  obtain ⟨m, ⟨o, es, ep, ho, r⟩, _⟩ := id I.loc
  obtain ⟨sl, hL⟩ := u.any ho I.free (by simp)
  exact I.step (g' := s.gens) (d' := s.drawn) (ch := []) (fun _ z => nomatch z) (fun b o _ hb _ e n => u.keep b o e n hb (by simp)) (fun b o _ hb _ e n => u.slot b o e n hb (by simp)) (fun b o _ e n => u.free b o e n (by simp)) (fun b o _ e => u.there b o e (by simp)) u.tups u.frzs u.tbls (fun m' hm => by
    obtain ⟨o', es', ep', ho', r'⟩ := hm
    rw [ho] at ho'; cases ho'
    exact ⟨_, es', ep', hL, r'⟩) hok I.bare
theorem Inv.call {g' : Array GenState} {t' : Nat} {d' : Drawn} {ch : List Addr} (I : Inv X pins σ H s) (u : Un (frs X.stack) ch H H' s.heap h') (hok : HOk X.prog X.w H' h') (hg : AllBare g')
    (hch : ∀ b ∈ ch, (b ∈ X.ex ∨ X.s₀.heap.objs.size ≤ b) ∧ b ≠ X.env.locals ∧ (∀ x c, X.env.cells.lookup x = some c → c ≠ b) ∧ ∀ p ∈ X.pn ++ pins, p.1 ≠ b) :
    Inv X pins σ H' { s with heap := h', gens := g', drawn := d', toks := t' } := by
  obtain ⟨m, ⟨o, es, ep, ho, r⟩, _⟩ := id I.loc
  obtain ⟨sl, hL⟩ := u.any ho I.free fun z => (hch _ z).2.1 rfl
  exact I.step (ch := ch) hch (fun b o hL hb hc e n => u.keep b o e n (fun z => (List.mem_cons.mp (I.stkSub b z)).elim hL hb) hc) (fun b o _ _ hc e n => u.any e n hc) (fun b o hc e n => u.free b o e n hc) (fun b o hc e => u.there b o e hc) u.tups u.frzs u.tbls (fun m' hm => by
    obtain ⟨o', es', ep', ho', r'⟩ := hm
    rw [ho] at ho'; cases ho'
    exact ⟨_, es', ep', hL, r'⟩) hok hg
theorem Inv.turned {t' : Nat} {it : Addr} (I : Inv X pins σ H s) (k : ∀ b o, b ≠ it → s.heap.get? b = some o → h'.get? b = some o) (hn : H it = none) (hL : it ≠ X.env.locals)
    (h1 : it ∈ X.ex ∨ X.s₀.heap.objs.size ≤ it) (h2 : ∀ x c, X.env.cells.lookup x = some c → c ≠ it) (h3 : ∀ p ∈ X.pn ++ pins, p.1 ≠ it) : Inv X pins σ H { s with heap := h', toks := t' } := by
  have nit : ∀ b u, H b = some u → b ≠ it := fun b u e z => by rw [z, hn] at e; cases e
  refine I.step (g' := s.gens) (d' := s.drawn) (ch := [it]) (fun b hb => ?_) (fun b o _ _ hc e _ => k b o (fun z => hc (by simp [z])) e) (fun b o _ _ hc e _ => ⟨o.slots, k b o (fun z => hc (by simp [z])) e⟩) (fun _ _ _ _ n => n)
    (fun b o hc e => ⟨o, k b o (fun z => hc (by simp [z])) e⟩) (fun _ _ e => e) (fun _ _ _ e => e) (fun b ps e => ⟨#[], by rw [e]; simp⟩) (fun m hm => ?_) (fun b u e => ?_) I.bare
  · have e : b = it := by simpa using hb
    subst e
    exact ⟨h1, hL, h2, h3⟩
  · obtain ⟨o, es, ep, ho, r⟩ := hm
    exact ⟨o, es, ep, k _ o (Ne.symm hL) ho, r⟩
  · refine (I.hok b u e).stay (fun c v hc q => k c v ?_ q) (fun _ q => q) fun _ _ q => q
    rcases hc with z | z
    · rw [z]; exact nit b u e
    · exact nit c _ z
theorem Inv.tok (I : Inv X pins σ H s) (t : Nat) : Inv X pins σ H { s with toks := t } := I.un (h' := s.heap) (t' := t) Un.refl I.hok
theorem Inv.kept {t' : Nat} (I : Inv X pins σ H s) (k : ∀ b u, s.heap.get? b = some u → h'.get? b = some u) : Inv X pins σ H { s with heap := h', toks := t' } := I.un (Un.kept k) (I.hok.kept k)
theorem Inv.laid {a : Addr} {o : HO} {t' : Nat} (I : Inv X pins σ H s) (k : ∀ b u, s.heap.get? b = some u → h'.get? b = some u) (hp : s.heap.objs.size ≤ a) (new : ObjOk X.prog X.w (upd H a o) h' a o) :
    Inv X pins σ (upd H a o) { s with heap := h', toks := t' } := I.un (Un.laid k hp (I.hok.fresh hp)) (I.hok.laid k hp new)
theorem Inv.write {x e : Addr} {o : HO} {t' : Nat} (I : Inv X pins σ H s) (mu : Mut (H x)) (he : e = x ∨ H e = some (.own x)) (k : ∀ b u, b ≠ e → s.heap.get? b = some u → h'.get? b = some u) (heo : ∃ u, h'.get? e = some u)
    (new : ObjOk X.prog X.w (upd H x o) h' x o) : Inv X pins σ (upd H x o) { s with heap := h', toks := t' } := I.un (Un.write mu he k heo) (I.hok.write mu he k heo new)
theorem Inv.weak {σ' : List (Option V)} (I : Inv X pins σ H s) (hl : σ'.length = σ.length) (w : ∀ (i : Nat) v, σ'[i]? = some (some v) → σ[i]? = some (some v)) : Inv X pins σ' H s :=
  ⟨I.ok, I.os, I.bare, I.base, let ⟨m, hn, hl'⟩ := I.loc; ⟨m, hn, fun i x v e1 e2 e3 => hl' i x v e1 (w i v e2) e3⟩, I.cell, I.free, I.freeC, I.pin, I.hok, hl.trans I.len⟩
theorem Inv.pins_of {pins' : List (Addr × Obj)} (I : Inv X pins σ H s) (h : ∀ p ∈ pins', s.heap.get? p.1 = some p.2 ∧ H p.1 = none ∧ p.1 ≠ X.env.locals ∧ p.1 ∉ X.fs ∧ ∀ v, p.2.data ≠ .cell v) : Inv X pins' σ H s :=
  ⟨I.ok, I.os, I.bare, I.base, I.loc, I.cell, I.free, I.freeC, fun p hp => (List.mem_append.mp hp).elim (fun z => I.pin p (List.mem_append_left _ z)) (h p), I.hok, I.len⟩
theorem nodup_ix {N : List Str} (hN : N.Nodup) {i j : Nat} {x : Str} (a : N[i]? = some x) (b : N[j]? = some x) : i = j := by
  obtain ⟨h1, e1⟩ := List.getElem?_eq_some_iff.mp a
  obtain ⟨h2, e2⟩ := List.getElem?_eq_some_iff.mp b
  exact (List.getElem_inj hN).mp (e1.trans e2.symm)
theorem store_ok2 {M : Model} {A : Around} {E : Value → Shared → Prop} {i : Nat} {x : Str} {v : V} {u : Value} {Q : Unit → Shared → Prop} (I : Inv X pins σ H s) (hN : X.N.Nodup) (hi : X.N[i]? = some x) (hx : Loc X.env.scope x) (r : RelV v u)
    (h : ∀ s', Inv X pins (σ.set i (some v)) H s' → (∃ a, Heap.SameBut a s.heap s'.heap ∧ (a = X.env.locals ∨ X.env.cells.lookup x = some a)) → Q () s') (hf : X.fn x = true ∨ X.env.scope.names.lookup x = some .local := by first | exact .inl rfl | exact .inr rfl | assumption) : wpAny M A (storeName X.env x u) Q E s := by
  obtain ⟨m, hn, hl⟩ := id I.loc
  have hcls : (X.env.scope.kind == .class || (X.env.scope.kind == .module && X.env.locals != X.env.globals)) = false := by rw [I.ok.kind]; rfl
  have hiσ : i < σ.length := by rw [I.len]; exact (List.getElem?_eq_some_iff.mp hi).1
  have cne := I.cne
  have tracked : ∀ {a : Addr} {h' : Heap}, (∃ o, s.heap.get? a = some o ∧ H a = none) → Heap.SameBut a s.heap h' → HOk X.prog X.w H h' := fun {a h'} ha hs b ob e => by
    obtain ⟨_, _, hfree⟩ := ha
    refine (I.hok b ob e).stay (fun c w' hc q => (hs.2 c ?_).trans q) (fun _ q => q) fun _ _ q => q
    rintro rfl
    rcases hc with rfl | hc
    · rw [hfree] at e; cases e
    · rw [hfree] at hc; cases hc
  rcases hx with hk | hk
  · refine wpAny_storeName_local hk hn (fun h' hn' hs => ?_) hcls
    obtain ⟨oL, _, _, hoL, _⟩ := id hn
    refine h _ ⟨I.ok, I.os, I.bare, ⟨fun b o e n hb hx => ?_, fun b o e n hb hx => ?_, I.base.free, fun b o e hx => ?_, I.base.tups, I.base.frzs, I.base.tbls⟩, ⟨_, hn', fun j y v' e1 e2 e3 => ?_⟩, fun y c e => ?_, I.free, I.freeC, fun p hp => ?_, tracked ⟨oL, hoL, I.free⟩ hs, by simpa using I.len⟩ ⟨_, hs, .inl rfl⟩
    · exact (hs.2 b (Nat.ne_of_lt (Nat.lt_of_lt_of_le (Heap.lt_size e) I.ok.above))).trans (I.base.keep b o e n hb hx)
    · obtain ⟨sl, e1⟩ := I.base.slot b o e n hb hx
      exact ⟨sl, (hs.2 b (Nat.ne_of_lt (Nat.lt_of_lt_of_le (Heap.lt_size e) I.ok.above))).trans e1⟩
    · obtain ⟨o', e1⟩ := I.base.there b o e hx
      exact ⟨o', (hs.2 b (Nat.ne_of_lt (Nat.lt_of_lt_of_le (Heap.lt_size e) I.ok.above))).trans e1⟩
    · by_cases hj : j = i
      · subst hj
        rw [hi] at e1; cases e1
        rw [List.getElem?_set_self hiσ] at e2
        cases e2
        exact ⟨u, r, .inl ⟨hk, by simp⟩⟩
      · rw [List.getElem?_set_ne (Ne.symm hj)] at e2
        obtain ⟨u', r', q⟩ := hl j y v' e1 e2 e3
        refine ⟨u', r', ?_⟩
        rcases q with ⟨k, e⟩ | ⟨k, c, e, z⟩
        · refine .inl ⟨k, ?_⟩
          have : y ≠ x := fun e => hj (nodup_ix hN e1 (e ▸ hi))
          simp [this, e]
        · exact .inr ⟨k, c, e, z.sameBut hs (cne y c e)⟩
    · obtain ⟨w', z⟩ := I.cell y c e
      exact ⟨w', z.sameBut hs (cne y c e)⟩
    · obtain ⟨e, n, ne, nf, d⟩ := I.pin p hp
      exact ⟨(hs.2 p.1 ne).trans e, n, ne, nf, d⟩
  · have hfn : X.fn x = true := by
      rcases hf with z | z
      · exact z
      · rw [z] at hk; cases hk
    obtain ⟨c, hc⟩ := I.ok.has x (.inl hk)
    obtain ⟨w', z⟩ := I.cell x c hc
    refine wpAny_storeName_cell I.ok.kind hk hc z (fun h' hc' hs => ?_)
    obtain ⟨oc, hoc, hocd⟩ := id z
    refine h { s with heap := h' } ⟨I.ok, I.os, I.bare, ⟨fun b o e n hb hx => ?_, fun b o e n hb hx => ?_, I.base.free, fun b o e hx => ?_, I.base.tups, I.base.frzs, I.base.tbls⟩, ⟨m, hn.sameBut hs (Ne.symm (cne x c hc)), fun j y v' e1 e2 e3 => ?_⟩, fun y c' e => ?_, I.free, I.freeC, fun p hp => ?_, tracked ⟨oc, hoc, I.freeC x c hc⟩ hs, by simpa using I.len⟩ ⟨c, hs, .inr hc⟩
    · exact (hs.2 b (Nat.ne_of_lt (Nat.lt_of_lt_of_le (Heap.lt_size e) (I.ok.cab x c hfn hc)))).trans (I.base.keep b o e n hb hx)
    · obtain ⟨sl, e1⟩ := I.base.slot b o e n hb hx
      exact ⟨sl, (hs.2 b (Nat.ne_of_lt (Nat.lt_of_lt_of_le (Heap.lt_size e) (I.ok.cab x c hfn hc)))).trans e1⟩
    · obtain ⟨o', e1⟩ := I.base.there b o e hx
      exact ⟨o', (hs.2 b (Nat.ne_of_lt (Nat.lt_of_lt_of_le (Heap.lt_size e) (I.ok.cab x c hfn hc)))).trans e1⟩
    · by_cases hj : j = i
      · subst hj
        rw [hi] at e1; cases e1
        rw [List.getElem?_set_self hiσ] at e2
        cases e2
        exact ⟨u, r, .inr ⟨.inl hk, c, hc, hc'⟩⟩
      · rw [List.getElem?_set_ne (Ne.symm hj)] at e2
        obtain ⟨u', r', q⟩ := hl j y v' e1 e2 e3
        refine ⟨u', r', ?_⟩
        rcases q with q | ⟨k, c', e, z'⟩
        · exact .inl q
        · refine .inr ⟨k, c', e, z'.sameBut hs ?_⟩
          rintro rfl
          exact hj (nodup_ix hN e1 (I.ok.inj _ _ _ e hc ▸ hi))
    · by_cases hcc : c' = c
      · subst hcc; exact ⟨_, hc'⟩
      · obtain ⟨w2, z2⟩ := I.cell y c' e
        exact ⟨w2, z2.sameBut hs hcc⟩
    · obtain ⟨e, n, ne, nf, d⟩ := I.pin p hp
      refine ⟨(hs.2 p.1 ?_).trans e, n, ne, nf, d⟩
      intro q
      rw [q, hoc] at e
      have q' : oc = p.2 := Option.some.inj e
      exact d w' (by rw [← q']; exact hocd)
theorem store_ok {M : Model} {A : Around} {E : Value → Shared → Prop} {i : Nat} {x : Str} {v : V} {u : Value} {Q : Unit → Shared → Prop} (I : Inv X pins σ H s) (hN : X.N.Nodup) (hi : X.N[i]? = some x) (hx : Loc X.env.scope x) (r : RelV v u)
    (h : ∀ s', Inv X pins (σ.set i (some v)) H s' → Q () s') (hf : X.fn x = true ∨ X.env.scope.names.lookup x = some .local := by first | exact .inl rfl | exact .inr rfl | assumption) : wpAny M A (storeName X.env x u) Q E s :=
  store_ok2 I hN hi hx r (fun s' I' _ => h s' I') hf
theorem Inv.call' {s' : Shared} {ch : List Addr} (I : Inv X pins σ H s) (ho : s'.os = s.os) (u : Un (frs X.stack) ch H H' s.heap s'.heap) (hok : HOk X.prog X.w H' s'.heap) (hg : AllBare s'.gens)
    (hch : ∀ b ∈ ch, (b ∈ X.ex ∨ X.s₀.heap.objs.size ≤ b) ∧ b ≠ X.env.locals ∧ (∀ x c, X.env.cells.lookup x = some c → c ≠ b) ∧ ∀ p ∈ X.pn ++ pins, p.1 ≠ b) : Inv X pins σ H' s' := by
  obtain ⟨h', g', d', t', o'⟩ := s'
  have e : o' = s.os := ho
  subst e
  exact I.call (g' := g') (t' := t') (d' := d') u hok hg hch
end
abbrev XK := Value → Option Addr → Hp → Prop
abbrev St := List (Option V)
abbrev VK := V → Hp → Prop
abbrev TE := St → Hp → VK → Prop
abbrev TT := St → Hp → (Bool → Hp → Prop) → Prop
abbrev TA := St → Hp → (List V → Hp → Prop) → Prop
structure Ends where
  nx : St → Hp → Prop
  rt : VK
  bk : St → Hp → Prop := fun _ _ => False
  ct : St → Hp → Prop := fun _ _ => False
abbrev TS := Ends → St → Hp → Prop
def EP (X : Cx) (pins : List (Addr × Obj)) (σ : St) (Q : VK) (u : Value) (s' : Shared) : Prop := ∃ v H', Inv X pins σ H' s' ∧ RelV v u ∧ Q v H'
def TP (X : Cx) (pins : List (Addr × Obj)) (σ : St) (Q : Bool → Hp → Prop) (b : Bool) (s' : Shared) : Prop := ∃ H', Inv X pins σ H' s' ∧ Q b H'
def AP (X : Cx) (pins : List (Addr × Obj)) (σ : St) (Q : List V → Hp → Prop) (us : List Value) (s' : Shared) : Prop := ∃ vs H', Inv X pins σ H' s' ∧ Vals vs us ∧ Q vs H'
def SP (X : Cx) (pins : List (Addr × Obj)) (D : Ends) (f : Flow) (s' : Shared) : Prop :=
  match f with
  | .next => ∃ σ' H', Inv X pins σ' H' s' ∧ D.nx σ' H'
  | .brk => ∃ σ' H', Inv X pins σ' H' s' ∧ D.bk σ' H'
  | .cont => ∃ σ' H', Inv X pins σ' H' s' ∧ D.ct σ' H'
  | .ret u => ∃ v σ' H', Inv X pins σ' H' s' ∧ RelV v u ∧ D.rt v H'
def PE (X : Cx) (e : Expr) (t : TE) : Prop :=
  ∀ (pins : List (Addr × Obj)) (s : Shared) (σ : St) (H : Hp) (Q : VK), Inv X pins σ H s → t σ H Q → wpAny (model X.prog X.w) X.A (eval e X.env) (EP X pins σ Q) X.xe s
def PT (X : Cx) (e : Expr) (t : TT) : Prop :=
  ∀ (pins : List (Addr × Obj)) (s : Shared) (σ : St) (H : Hp) (Q : Bool → Hp → Prop), Inv X pins σ H s → t σ H Q → wpAny (model X.prog X.w) X.A (isTrue e X.env (eval e X.env)) (TP X pins σ Q) X.xe s
def PW (X : Cx) (e : Expr) (t : TT) : Prop :=
  ∀ (whole : Sem Value) (pins : List (Addr × Obj)) (s : Shared) (σ : St) (H : Hp) (Q : Bool → Hp → Prop), Inv X pins σ H s → t σ H Q → wpAny (model X.prog X.w) X.A (isTrue e X.env whole) (TP X pins σ Q) X.xe s
theorem PW.pt {X : Cx} {e : Expr} {t : TT} (h : PW X e t) : PT X e t := h _
def PA (X : Cx) (es : List Expr) (t : TA) : Prop :=
  ∀ (pos : Pos) (pins : List (Addr × Obj)) (s : Shared) (σ : St) (H : Hp) (Q : List V → Hp → Prop), Inv X pins σ H s → t σ H Q → wpAny (model X.prog X.w) X.A (spliced (backTo pos (starEach es X.env))) (AP X pins σ Q) X.xe s
def PS (X : Cx) (st : Stmt) (t : TS) : Prop :=
  ∀ (pins : List (Addr × Obj)) (s : Shared) (σ : St) (H : Hp) (D : Ends), Inv X pins σ H s → t D σ H → wpAny (model X.prog X.w) X.A (exec st X.env) (SP X pins D) X.xe s
def PSs (X : Cx) (st : List Stmt) (t : TS) : Prop :=
  ∀ (pins : List (Addr × Obj)) (s : Shared) (σ : St) (H : Hp) (D : Ends), Inv X pins σ H s → t D σ H → wpAny (model X.prog X.w) X.A (execs st X.env) (SP X pins D) X.xe s
theorem thn {α : Type} {t : Sem α} {Q Q' : α → Shared → Prop} {M : Model} {A : Around} {E : Value → Shared → Prop} {s : Shared} (h : wpAny M A t Q E s) (hQ : ∀ a s, Q a s → Q' a s) : wpAny M A t Q' E s := wpAny_mono h hQ fun _ _ x => x
end L2
namespace L2
open PySem PySem.Spec PyProof.Rows
section
variable {X : Cx}
def tVar (i : Nat) : TE := fun σ H Q => ∃ v, σ[i]? = some (some v) ∧ Q v H
def tC (v : V) : TE := fun _ H Q => Q v H
theorem pe_var {i : Nat} {x : Str} {pos : Pos} (hN : X.N[i]? = some x) (hv : Vis X.env.scope x) (hd : (x == ("__debug__" : Str)) = false := by decide) (hcd : (x == ("__classdict__" : Str)) = false := by decide) : PE X (.Name x pos) (tVar i) := by
  intro pins s σ H Q I h
  obtain ⟨v, e, h⟩ := h
  obtain ⟨m, hn, hl⟩ := I.loc
  obtain ⟨u, r, l⟩ := hl i x v hN e hv
  have fin : EP X pins σ Q u s := ⟨v, H, I, r, h⟩
  rcases l with ⟨hk, hm⟩ | ⟨hk, c, hc, hcell⟩
  · exact wpAny_Name (wpAny_loadName_local I.ok.kind hk hn hm fin) hd
  · rcases hk with hk | hk
    · exact wpAny_Name (wpAny_loadName_cell I.ok.kind hk hc hcell fin) hd
    · exact wpAny_Name (wpAny_loadName_free I.ok.kind hk hc hcell fin hcd) hd
theorem pe_int {i j pos} : PE X (.Constant (.int i) j pos) (tC (.int i)) := fun _ _ _ H _ I h => wpAny_Constant_int ⟨.int i, H, I.tok _, ⟨_, rfl⟩, h⟩
theorem pe_bl {b j pos} : PE X (.Constant (.bool b) j pos) (tC (.bl b)) := fun _ _ _ H _ I h => Constant_bool ⟨.bl b, H, I, rfl, h⟩
theorem pe_non {j pos} : PE X (.Constant .none j pos) (tC .non) := fun _ _ _ H _ I h => Constant_none ⟨.non, H, I, rfl, h⟩
def Gl (X : Cx) (x : Str) : Prop := X.env.kindOf x = some .globalImplicit
theorem ld_glob {E : Value → Shared → Prop} {pins : List (Addr × Obj)} {s : Shared} {σ : St} {H : Hp} {x : Str} {u : Value} {pos : Pos} {Q : Value → Shared → Prop} (I : Inv X pins σ H s) (hg : Gl X x) (hm : X.mg x = some u) (h : Q u s)
    (hd : (x == ("__debug__" : Str)) = false := by decide) : wpAny (model X.prog X.w) X.A (eval (.Name x pos) X.env) Q E s :=
  Calls.Name_function_global I.ok.kind hg (Calls.loadGlobal_global (by rw [I.ok.glob]; exact I.mod.glob.keeps I.bk) hm h) hd
theorem ld_blt {E : Value → Shared → Prop} {pins : List (Addr × Obj)} {s : Shared} {σ : St} {H : Hp} {x : Str} {u : Value} {pos : Pos} {Q : Value → Shared → Prop} (I : Inv X pins σ H s) (hg : Gl X x) (hm : X.mg x = none) (hv : bootBuiltins x = some u) (h : Q u s)
    (hn : x ≠ "__name__" := by decide) (hd : (x == ("__debug__" : Str)) = false := by decide) : wpAny (model X.prog X.w) X.A (eval (.Name x pos) X.env) Q E s := by
  obtain ⟨mb, h1, h2⟩ := I.mod.blt
  exact Calls.Name_function_global I.ok.kind hg (Calls.loadGlobal_builtin (by rw [I.ok.glob]; exact I.mod.glob.keeps I.bk) hm (by rw [I.ok.blt]; exact h1.keeps I.bk) ((h2 x hn).trans hv) h) hd
theorem pe_glob {x : Str} {v : V} {u : Value} {pos : Pos} (hg : Gl X x) (hm : X.mg x = some u) (r : RelV v u) (hd : (x == ("__debug__" : Str)) = false := by decide) : PE X (.Name x pos) (tC v) :=
  fun _ _ _ H _ I h => ld_glob I hg hm ⟨v, H, I, r, h⟩ hd
variable {a b : Expr} {ta tb : TE} {pos : Pos}
def PC (X : Cx) (op : CmpOp) (a b : Expr) (t : TE) : Prop :=
  ∀ (pins : List (Addr × Obj)) (s : Shared) (σ : St) (H : Hp) (Q : VK), Inv X pins σ H s → t σ H Q →
    wpAny (model X.prog X.w) X.A (eval a X.env) (fun v s₁ => wpAny (model X.prog X.w) X.A (eval b X.env) (fun u s₂ => wpAny (model X.prog X.w) X.A (compareOp op v u) (EP X pins σ Q) X.xe s₂) X.xe s₁) X.xe s
def tB (t : TE) : TT := fun σ H Q => t σ H fun x H1 => ∃ c, x = .bl c ∧ Q c H1
theorem pt_cmp {op : CmpOp} {t : TE} (h : PC X op a b t) (h1 : behindInMarks op b = false := by first | exact nobehind _ (by decide) (by decide) | rfl) : PT X (.Compare a [op] [b] pos) (tB t) := by
  intro pins s σ H Q I hw
  refine wpAny_isTrue_Compare1 (thn (h pins s σ H _ I hw) fun v s1 h1 => thn h1 fun u s2 h2 => thn h2 fun c s3 ⟨x, H1, I1, r1, q1⟩ => ?_) h1
  obtain ⟨d, rfl, q⟩ := q1
  cases r1
  exact wpAny_truthy_bool ⟨H1, I1, q⟩
theorem pt_val {e : Expr} {t : TE} (h : PE X e t) (he : ∀ whole, isTrue e X.env whole = (do let v ← whole; standAt e.pos; holding [v] (truthy v)) := by intro _; rfl) : PT X e (tB t) := by
  intro pins s σ H Q I hw
  refine isTrue_plain (thn (h pins s σ H _ I hw) fun v s1 ⟨x, H1, I1, r1, q1⟩ => ?_) (he _)
  obtain ⟨d, rfl, q⟩ := q1
  cases r1
  exact wpAny_truthy_bool ⟨H1, I1, q⟩
variable {tA tB' : TT} {rest : List Expr}
def tAnd (t u : TT) : TT := fun σ H Q => t σ H fun c H1 => if c = true then u σ H1 Q else Q false H1
def tOr (t u : TT) : TT := fun σ H Q => t σ H fun c H1 => if c = true then Q true H1 else u σ H1 Q
def tNot (t : TT) : TT := fun σ H Q => t σ H fun c H1 => Q (!c) H1
theorem pw_and1 (ha : PT X a tA) : PW X (.BoolOp .And [a] pos) tA := by
  intro wh pins s σ H Q I h
  refine isTrue_and (thn (ha pins s σ H Q I h) fun c s1 e => ?_)
  cases c with
  | true => exact isTrue_and_nil e
  | false => exact e
theorem pw_or1 (ha : PT X a tA) : PW X (.BoolOp .Or [a] pos) tA := by
  intro wh pins s σ H Q I h
  refine isTrue_or (thn (ha pins s σ H Q I h) fun c s1 e => ?_)
  cases c with
  | false => exact isTrue_or_nil e
  | true => exact e
theorem pw_and (ha : PT X a tA) (hb : PW X (.BoolOp .And (b :: rest) pos) tB') : PW X (.BoolOp .And (a :: b :: rest) pos) (tAnd tA tB') := by
  intro wh pins s σ H Q I h
  refine isTrue_and (thn (ha pins s σ H _ I h) fun c s1 ⟨H1, I1, q1⟩ => ?_)
  cases c with
  | true => exact hb wh pins s1 σ H1 Q I1 q1
  | false => exact ⟨H1, I1, q1⟩
theorem pw_or (ha : PT X a tA) (hb : PW X (.BoolOp .Or (b :: rest) pos) tB') : PW X (.BoolOp .Or (a :: b :: rest) pos) (tOr tA tB') := by
  intro wh pins s σ H Q I h
  refine isTrue_or (thn (ha pins s σ H _ I h) fun c s1 ⟨H1, I1, q1⟩ => ?_)
  cases c with
  | true => exact ⟨H1, I1, q1⟩
  | false => exact hb wh pins s1 σ H1 Q I1 q1
theorem pt_not (ha : PT X a tA) : PT X (.UnaryOp .Not a pos) (tNot tA) := by
  intro pins s σ H Q I h
  exact isTrue_not (ha pins s σ H (fun c H1 => Q (!c) H1) I h)
def tAndV (ta tb : TE) : TE := fun σ H Q => ta σ H fun x H1 => ∃ c, x = .bl c ∧ if c = true then tb σ H1 Q else Q (.bl false) H1
def tOrV (ta tb : TE) : TE := fun σ H Q => ta σ H fun x H1 => ∃ c, x = .bl c ∧ if c = true then Q (.bl true) H1 else tb σ H1 Q
theorem pe_one {op} {t : TE} (h : PE X a t) : PE X (.BoolOp op [a] pos) t := fun pins s σ H Q I hw => BoolOp_one (h pins s σ H Q I hw)
theorem pe_and (ha : PE X a ta) (hb : PE X (.BoolOp .And (b :: rest) pos) tb) : PE X (.BoolOp .And (a :: b :: rest) pos) (tAndV ta tb) := by
  intro pins s σ H Q I h
  refine BoolOp_and (thn (ha pins s σ H _ I h) fun v s1 ⟨x, H1, I1, r1, q1⟩ => ?_)
  obtain ⟨c, rfl, q1⟩ := q1
  cases r1
  refine wpAny_truthy_bool ?_
  cases c with
  | true => exact hb pins s1 σ H1 Q I1 q1
  | false => exact ⟨.bl false, H1, I1, rfl, q1⟩
theorem pe_or (ha : PE X a ta) (hb : PE X (.BoolOp .Or (b :: rest) pos) tb) : PE X (.BoolOp .Or (a :: b :: rest) pos) (tOrV ta tb) := by
  intro pins s σ H Q I h
  refine BoolOp_or (thn (ha pins s σ H _ I h) fun v s1 ⟨x, H1, I1, r1, q1⟩ => ?_)
  obtain ⟨c, rfl, q1⟩ := q1
  cases r1
  refine wpAny_truthy_bool ?_
  cases c with
  | false => exact hb pins s1 σ H1 Q I1 q1
  | true => exact ⟨.bl true, H1, I1, rfl, q1⟩
def tIf (t : TT) (ta tb : TE) : TE := fun σ H Q => t σ H fun c H1 => if c = true then ta σ H1 Q else tb σ H1 Q
theorem pe_ifExp {c : Expr} (hc : PT X c tA) (ha : PE X a ta) (hb : PE X b tb) : PE X (.IfExp c a b pos) (tIf tA ta tb) := by
  intro pins s σ H Q I h
  refine wpAny_IfExp (thn (hc pins s σ H _ I h) fun d s1 ⟨H1, I1, q1⟩ => ?_)
  cases d with
  | true => exact ha pins s1 σ H1 Q I1 q1
  | false => exact hb pins s1 σ H1 Q I1 q1
end
end L2
namespace L2
open PySem PySem.Spec PyProof.Rows
def SqL (K : PySem.W.Frag) (H : Hp) (a : Addr) (xs : List V) : Prop :=
  Rd H a (.lst xs) ∨
    ∃ (o : Obj) (its : Array Value) (n : Nat), K.lookup a = some o ∧ o.cls = .type "list" ∧ o.dict = none ∧ o.data = .seq its n ∧ its.size ≤ sizeLine ∧ Vals xs its.toList
def SqT (K : PySem.W.Frag) (H : Hp) (a : Addr) (xs : List V) : Prop :=
  Rd H a (.tup xs) ∨
    ∃ (o : Obj) (its : Array Value) (n : Nat), K.lookup a = some o ∧ o.cls = .type "tuple" ∧ o.data = .seq its n ∧ its.size ≤ sizeLine ∧ Vals xs its.toList
def absV : Value → Option V
  | .none => some .non
  | .bool b => some (.bl b)
  | .int i _ => some (.int i)
  | .str x _ => some (.str x)
  | .bytes b _ => some (.byt b)
  | .float b _ => some (.flt b)
  | .ref a => some (.ref a)
  | .type n => some (.ty n)
  | _ => none
theorem RelV.abs {x : V} {u : Value} (r : RelV x u) : absV u = some x := by
  cases x with
  | non => cases r; rfl
  | bl _ => cases r; rfl
  | int _ => obtain ⟨t, rfl⟩ := r; rfl
  | str _ => obtain ⟨t, rfl⟩ := r; rfl
  | byt _ => obtain ⟨t, rfl⟩ := r; rfl
  | flt _ => obtain ⟨t, rfl⟩ := r; rfl
  | ref _ => cases r; rfl
  | ty _ => cases r; rfl
theorem RelV.inj {x y : V} {u : Value} (r : RelV x u) (q : RelV y u) : x = y := Option.some.inj (r.abs.symm.trans q.abs)
theorem Vals.inj : ∀ {xs ys : List V} {us : List Value}, Vals xs us → Vals ys us → xs = ys
  | _, _, _, .nil, .nil => rfl
  | _, _, _, .cons r t, .cons r' t' => by rw [r.inj r', Vals.inj t t']
section
variable {X : Cx} {pins : List (Addr × Obj)} {σ : St} {H : Hp} {s : Shared} {a : Addr} {xs ys : List V}
theorem SqL.of {K : PySem.W.Frag} (h : H a = some (.lst xs)) : SqL K H a xs := .inl (.inl h)
theorem Inv.list (I : Inv X pins σ H s) (h : SqL X.K H a xs) : ∃ its : List Value, Vals xs its ∧ PlainL s.heap a its.toArray ∧ xs.length ≤ sizeLine := by
  rcases h with h | ⟨o, its, n, hk, hc, hd, hs, hz, r⟩
  · obtain ⟨z, its, n, r, e⟩ := h.ok I.hok
    exact ⟨its, r, ⟨_, n, e, rfl, rfl, rfl⟩, z⟩
  · refine ⟨its.toList, r, ⟨o, n, I.kIn a o hk, hc, hd, by simpa using hs⟩, ?_⟩
    have e := r.length
    simp only [Array.length_toList] at e
    omega
theorem Inv.tuple (I : Inv X pins σ H s) (h : SqT X.K H a xs) : ∃ its : List Value, Vals xs its ∧ IsTup s.heap a its.toArray ∧ xs.length ≤ sizeLine := by
  rcases h with h | ⟨o, its, n, hk, hc, hs, hz, r⟩
  · obtain ⟨z, its, r, p⟩ := h.ok I.hok
    exact ⟨its, r, p, z⟩
  · refine ⟨its.toList, r, ⟨o, I.kIn a o hk, hc, n, by simpa using hs⟩, ?_⟩
    have e := r.length
    simp only [Array.length_toList] at e
    omega
theorem Inv.list_inj (I : Inv X pins σ H s) (h : SqL X.K H a xs) (h' : SqL X.K H a ys) : xs = ys := by
  obtain ⟨its, r, ⟨o, n, e, _, _, d⟩, _⟩ := I.list h
  obtain ⟨its', r', ⟨o', n', e', _, _, d'⟩, _⟩ := I.list h'
  rw [e] at e'; cases e'
  rw [d] at d'
  injection d' with d1 _
  have : its = its' := by simpa using congrArg Array.toList d1
  subst this
  exact r.inj r'
end
abbrev Cx.wish (X : Cx) (E : Value → Shared → Prop) : Cx := { X with xe := E }
abbrev Cx.nox (X : Cx) : Cx := X.wish fun _ _ => False
theorem Cx.Ok.wish {X : Cx} (ok : X.Ok) (E : Value → Shared → Prop) : (X.wish E).Ok :=
  ⟨ok.mod, ok.kind, ok.glob, ok.blt, ok.above, ok.inj, ok.has, ok.cab, ok.hd, ok.frames, ok.stk, ok.exf, ok.bs, ok.bsz, ok.noex, ok.exfs, ok.funs, ok.frf⟩
theorem Cx.Ok.unwish {X : Cx} {E : Value → Shared → Prop} (ok : (X.wish E).Ok) : X.Ok :=
  ⟨ok.mod, ok.kind, ok.glob, ok.blt, ok.above, ok.inj, ok.has, ok.cab, ok.hd, ok.frames, ok.stk, ok.exf, ok.bs, ok.bsz, ok.noex, ok.exfs, ok.funs, ok.frf⟩
section
variable {X : Cx} {pins : List (Addr × Obj)} {σ : St} {H : Hp} {s : Shared} {E : Value → Shared → Prop}
theorem Inv.wish (I : Inv X pins σ H s) (E : Value → Shared → Prop) : Inv (X.wish E) pins σ H s := ⟨I.ok.wish E, I.os, I.bare, I.base, I.loc, I.cell, I.free, I.freeC, I.pin, I.hok, I.len⟩
theorem Inv.unwish (I : Inv (X.wish E) pins σ H s) : Inv X pins σ H s := ⟨I.ok.unwish, I.os, I.bare, I.base, I.loc, I.cell, I.free, I.freeC, I.pin, I.hok, I.len⟩
theorem SP.unwish {D : Ends} {f : Flow} {s' : Shared} (h : SP (X.wish E) pins D f s') : SP X pins D f s' := by
  cases f with
  | next => obtain ⟨σ', H', I, q⟩ := h; exact ⟨σ', H', I.unwish, q⟩
  | brk => obtain ⟨σ', H', I, q⟩ := h; exact ⟨σ', H', I.unwish, q⟩
  | cont => obtain ⟨σ', H', I, q⟩ := h; exact ⟨σ', H', I.unwish, q⟩
  | ret u => obtain ⟨v, σ', H', I, r, q⟩ := h; exact ⟨v, σ', H', I.unwish, r, q⟩
theorem PSs.nox {st : List Stmt} {t : TS} (h : PSs X.nox st t) : PSs X st t := fun pins s σ H D I hw =>
  wpAny_mono (h pins s σ H D (I.wish _) hw) (fun _ _ q => q.unwish) fun _ _ z => False.elim z
end
section
variable {X : Cx} {st : Stmt} {rest : List Stmt} {t u : TS} {e : Expr} {te : TE} {pos : Pos}
def tNext : TS := fun D σ H => D.nx σ H
def tSeq (t u : TS) : TS := fun D σ H => t { D with nx := u D } σ H
theorem pss_nil : PSs X [] tNext := fun _ _ σ H _ I h => wpAny_execs_nil ⟨σ, H, I, h⟩
theorem pss_cons (h1 : PS X st t) (h2 : PSs X rest u) : PSs X (st :: rest) (tSeq t u) := by
  intro pins s σ H D I h
  refine wpAny_execs_cons (thn (h1 pins s σ H { D with nx := u D } I h) fun f s1 q => ?_)
  cases f with
  | next =>
    obtain ⟨σ', H', I', q⟩ := q
    exact h2 pins s1 σ' H' D I' q
  | ret v => exact q
  | brk => exact q
  | cont => exact q
theorem pss_one (h1 : PS X st t) : PSs X [st] t := by
  intro pins s σ H D I h
  refine wpAny_execs_cons (thn (h1 pins s σ H D I h) fun f s1 q => ?_)
  cases f with
  | next => exact wpAny_execs_nil q
  | ret v => exact q
  | brk => exact q
  | cont => exact q
theorem Inv.quiet {pins : List (Addr × Obj)} {σ : St} {H : Hp} {s : Shared} (I : Inv X pins σ H s) : interactive X.env = false := by simp [interactive, I.ok.kind]
def tDrop (te : TE) : TS := fun D σ H => te σ H fun _ H1 => D.nx σ H1
theorem ps_expr (he : PE X e te) (hs : swapsWith e none pos.line X.env = pure false := by rfl) : PS X (.Expr e pos) (tDrop te) := by
  intro pins s σ H D I h
  exact wpAny_Expr_any (thn (he pins s σ H _ I h) fun v s1 ⟨x, H1, I1, r1, q1⟩ => ⟨σ, H1, I1, q1⟩) I.quiet hs
def tRet (te : TE) : TS := fun D σ H => te σ H D.rt
theorem ps_ret (he : PE X e te) : PS X (.Return (some e) pos) (tRet te) := by
  intro pins s σ H D I h
  exact wpAny_Return_some (thn (he pins s σ H _ I h) fun v s1 ⟨x, H1, I1, r1, q1⟩ => ⟨x, σ, H1, I1, r1, q1⟩)
def tRetN : TS := fun D _ H => D.rt .non H
theorem ps_retN : PS X (.Return none pos) tRetN := fun _ _ σ H _ I h => wpAny_Return_none ⟨.non, σ, H, I, rfl, h⟩
def tIfS (c : TT) (t u : TS) : TS := fun D σ H => c σ H fun b H1 => if b = true then t D σ H1 else u D σ H1
theorem ps_if {c : Expr} {a b : List Stmt} {tc : TT} (hc : PT X c tc) (ha : PSs X a t) (hb : PSs X b u) : PS X (.If c a b pos) (tIfS tc t u) := by
  intro pins s σ H D I h
  refine wpAny_If (thn (hc pins s σ H _ I h) fun d s1 ⟨H1, I1, q1⟩ => ?_)
  cases d with
  | true => exact ha pins s1 σ H1 D I1 q1
  | false => exact hb pins s1 σ H1 D I1 q1
def tNever : TS := fun _ _ _ => False
theorem ps_never : PS X st tNever := fun _ _ _ _ _ _ h => h.elim
end
abbrev TG := V → St → Hp → (St → Hp → Prop) → Prop
def PG (X : Cx) (target : Expr) (t : TG) : Prop :=
  ∀ (pins : List (Addr × Obj)) (s : Shared) (σ : St) (H : Hp) (v : V) (u : Value) (Q : St → Hp → Prop), Inv X pins σ H s → RelV v u → t v σ H Q →
    wpAny (model X.prog X.w) X.A (assign target X.env u) (fun _ s' => ∃ σ' H', Inv X pins σ' H' s' ∧ Q σ' H') X.xe s
abbrev TSet := V → V → V → Hp → (Hp → Prop) → Prop
def PSet (X : Cx) (t : TSet) : Prop :=
  ∀ (pins : List (Addr × Obj)) (s : Shared) (σ : St) (H : Hp) (o i v : V) (ov iv u : Value) (Q : Hp → Prop), Inv X pins σ H s → RelV o ov → RelV i iv → RelV v u → t o i v H Q →
    wpAny (model X.prog X.w) X.A (setItem ov iv u) (fun _ s' => ∃ H', Inv X pins σ H' s' ∧ Q H') X.xe s
section
variable {X : Cx} {pos : Pos}
def gName (i : Nat) : TG := fun v σ H Q => Q (σ.set i (some v)) H
theorem pg_name {i : Nat} {x : Str} (hN : X.N.Nodup) (hi : X.N[i]? = some x) (hx : Loc X.env.scope x) (hf : X.fn x = true ∨ X.env.scope.names.lookup x = some .local := by first | exact .inl rfl | exact .inr rfl | assumption) : PG X (.Name x pos) (gName i) := by
  intro pins s σ H v u Q I r h
  exact wpAny_assign_Name (store_ok I hN hi hx r (fun s' I' => ⟨_, H, I', h⟩) hf)
def gSub (to ti : TE) (t : TSet) : TG := fun v σ H Q => to σ H fun o H1 => ti σ H1 fun i H2 => t o i v H2 fun H3 => Q σ H3
theorem pg_sub {o i : Expr} {to ti : TE} {t : TSet} (ho : PE X o to) (hi : PE X i ti) (hs : PSet X t)
    (ha : ∀ v, assign (.Subscript o i pos) X.env v = (do
      let ov ← holding [v] (eval o X.env)
      let iv ← holding [v, ov] (eval i X.env)
      standAt pos
      holding [v, ov, iv] (setItem ov iv v)
      release [v, ov, iv] []) := by intro _; rfl) : PG X (.Subscript o i pos) (gSub to ti t) := by
  intro pins s σ H v u Q I r h
  rw [ha]
  refine wpAny_bind (wpAny_holding (thn (ho pins s σ H _ I h) fun ov s1 ⟨x, H1, I1, r1, q1⟩ => ?_))
  refine wpAny_bind (wpAny_holding (thn (hi pins s1 σ H1 _ I1 q1) fun iv s2 ⟨y, H2, I2, r2, q2⟩ => ?_))
  refine wpAny_bind (wpAny_standAt (wpAny_bind (wpAny_holding (thn (hs pins s2 σ H2 x y v ov iv u _ I2 r1 r2 r q2) fun _ s3 ⟨H3, I3, q3⟩ => ?_))))
  exact wpAny_release ⟨σ, H3, I3, q3⟩
def tAsg (te : TE) (g : TG) : TS := fun D σ H => te σ H fun x H1 => g x σ H1 D.nx
theorem ps_asg {tg e : Expr} {te : TE} {g : TG} (he : PE X e te) (hg : PG X tg g) (hs : swapsWithSole [tg] e pos.line X.env = pure false := by rfl) (hw : swappedStores [tg] e X.env = pure none := by rfl)
    (h1 : (assignEach [tg] X.env).map (·.2) = [assign tg X.env] := by rfl) : PS X (.Assign [tg] e pos) (tAsg te g) := by
  intro pins s σ H D I h
  refine wpAny_Assign_stores (thn (he pins s σ H _ I h) fun v s1 ⟨x, H1, I1, r1, q1⟩ => ?_) hs hw
  rw [h1]
  exact thn (hg pins s1 σ H1 x v _ I1 r1 q1) fun _ s2 q => q
theorem ps_set {i : Nat} {x : Str} {e : Expr} {te : TE} {pos' : Pos} (hN : X.N.Nodup) (hi : X.N[i]? = some x) (hx : Loc X.env.scope x) (he : PE X e te) (hs : swapsWith e (some (.Name x pos')) pos.line X.env = pure false := by rfl) (hf : X.fn x = true ∨ X.env.scope.names.lookup x = some .local := by first | exact .inl rfl | exact .inr rfl | assumption) :
    PS X (.Assign [.Name x pos'] e pos) (tAsg te (gName i)) := by
  intro pins s σ H D I h
  refine wpAny_Assign_Name (thn (he pins s σ H _ I h) fun v s1 ⟨y, H1, I1, r1, q1⟩ => ?_) hs
  exact store_ok I1 hN hi hx r1 (fun s2 I2 => ⟨_, H1, I2, q1⟩) hf
end
section
variable {X : Cx} {pos : Pos}
def tWhile (c : TT) (tb : TS) : TS := fun D σ H => ∃ W : Nat → St → Hp → Prop, (∃ m, W m σ H) ∧ ∀ m σ H, W m σ H →
  c σ H fun b H1 => if b = true then ∃ N : St → Hp → Prop, (∀ σ' H', N σ' H' → ∃ m', m' < m ∧ W m' σ' H') ∧ tb { D with nx := N, ct := N, bk := D.nx } σ H1 else D.nx σ H1
theorem ps_while {c : Expr} {body : List Stmt} {tc : TT} {tb : TS} (hp : PassesOwn (model X.prog X.w) X.A X.env X.xe) (hc : PT X c tc) (hb : PSs X body tb) : PS X (.While c body [] pos) (tWhile tc tb) := by
  intro pins s σ H D I h
  obtain ⟨W, ⟨m0, w0⟩, turn⟩ := h
  refine wpAny_While (codeAny_whileLoop (fun n s' => ∃ σ' H', Inv X pins σ' H' s' ∧ W n σ' H') ?_ m0 ⟨σ, H, I, w0⟩)
  rintro n s1 ⟨σ1, H1, I1, w1⟩
  refine wpAny_passesOwn hp (thn (hc pins s1 σ1 H1 _ I1 (turn n σ1 H1 w1)) fun b s2 ⟨H2, I2, q2⟩ => ?_)
  cases b with
  | true =>
    obtain ⟨N, hN, q2⟩ := q2
    rw [if_pos rfl]
    refine wpAny_passesOwn hp (thn (hb pins s2 σ1 H2 _ I2 q2) fun f s3 q3 => ?_)
    cases f with
    | next =>
      obtain ⟨σ3, H3, I3, n3⟩ := q3
      obtain ⟨m', hm, w3⟩ := hN σ3 H3 n3
      exact ⟨m', hm, σ3, H3, I3, w3⟩
    | cont =>
      obtain ⟨σ3, H3, I3, n3⟩ := q3
      obtain ⟨m', hm, w3⟩ := hN σ3 H3 n3
      exact ⟨m', hm, σ3, H3, I3, w3⟩
    | brk => exact q3
    | ret v => exact q3
  | false =>
    rw [if_neg Bool.false_ne_true]
    exact wpAny_execs_nil ⟨σ1, H2, I2, q2⟩
end
structure It where
  go : Nat → Hp → Prop
  yld : Nat → Hp → V → Hp → Prop
  stop : Nat → Hp → Prop
def FpOk (X : Cx) (pins : List (Addr × Obj)) (H : Hp) (b : Addr) : Prop :=
  H b = none ∧ b ≠ X.env.locals ∧ b ∉ X.fs ∧ (b ∈ X.ex ∨ X.s₀.heap.objs.size ≤ b) ∧ (∀ x c, X.env.cells.lookup x = some c → c ≠ b) ∧ ∀ p ∈ X.pn ++ pins, p.1 ≠ b
theorem Inv.fpOk {X : Cx} {pins : List (Addr × Obj)} {σ : St} {H H' : Hp} {s : Shared} {b : Addr} (I : Inv X pins σ H s) (hb : s.heap.objs.size ≤ b) (hn : H' b = none) : FpOk X pins H' b := by
  refine ⟨hn, Nat.ne_of_gt (Nat.lt_of_lt_of_le I.lt hb), I.nofs hb, .inr (Nat.le_trans I.sz hb), fun x c e z => ?_, fun p hp z => ?_⟩
  · obtain ⟨v, q⟩ := I.cell x c e
    exact absurd (Nat.lt_of_lt_of_le q.lt (by rw [z]; exact hb)) (Nat.lt_irrefl _)
  · exact absurd (Nat.lt_of_lt_of_le (Heap.lt_size (I.pin p hp).1) (by rw [z]; exact hb)) (Nat.lt_irrefl _)
structure Turn (P : Program) (w : World) (K : PySem.W.Frag) (tg : Expr) (J : It) (fp : List Addr) (it : Addr) (tn : Nat → Heap → Prop) : Prop where
  mem : it ∈ fp
  obj : ∀ i h, tn i h → ∀ b ∈ fp, ∃ o, h.get? b = some o ∧ ∀ v, o.data ≠ .cell v
  keep : ∀ i h h', tn i h → (∀ b ∈ fp, ∀ o, h.get? b = some o → h'.get? b = some o) → tn i h'
  item : ∀ (X : Cx), X.prog = P → X.w = w → X.K = K → X.calm = true → ∀ (i : Nat) (pins : List (Addr × Obj)) (s : Shared) (σ : St) (H : Hp) (E : Value → Shared → Prop), Inv X pins σ H s → (∀ b ∈ fp, FpOk X pins H b) → tn i s.heap → J.go i H →
    wpAny (model P w) X.A (pyNext (.ref it)) (fun r s1 => ∃ u, r = some u ∧
      wpAny (model P w) X.A (letOwnedTupleGo tg (.ref it) u) (fun _ s2 => ∃ x H', Inv X pins σ H' s2 ∧ RelV x u ∧ J.yld i H x H' ∧ tn (i + 1) s2.heap ∧ ∀ b ∈ fp, H' b = none) E s1) E s
  done : ∀ (X : Cx), X.prog = P → X.w = w → X.K = K → X.calm = true → ∀ (i : Nat) (pins : List (Addr × Obj)) (s : Shared) (σ : St) (H : Hp) (E : Value → Shared → Prop), Inv X pins σ H s → (∀ b ∈ fp, FpOk X pins H b) → tn i s.heap → J.stop i H →
    wpAny (model P w) X.A (pyNext (.ref it)) (fun r s1 => r = none ∧ Inv X pins σ H s1) E s
  self : ∀ (A : Around) (i : Nat) (s : Shared) (Q : Value → Shared → Prop) (E : Value → Shared → Prop), tn i s.heap → Q (.ref it) s → wpAny (model P w) A (pyIter (.ref it)) Q E s
abbrev TI := St → Hp → (It → Hp → Prop) → Prop
def PIE (X : Cx) (pins : List (Addr × Obj)) (σ : St) (tg : Expr) (R : It → Hp → Prop) (itv : Value) (s2 : Shared) : Prop :=
  ∃ (it : Addr) (fp : List Addr) (tn : Nat → Heap → Prop) (J : It) (H' : Hp), itv = .ref it ∧ Inv X pins σ H' s2 ∧ Turn X.prog X.w X.K tg J fp it tn ∧ tn 0 s2.heap ∧ (∀ b ∈ fp, FpOk X pins H' b) ∧ R J H'
def PI (X : Cx) (tg iter : Expr) (wi : TI) : Prop :=
  ∀ (pins : List (Addr × Obj)) (s : Shared) (σ : St) (H : Hp) (R : It → Hp → Prop), Inv X pins σ H s → wi σ H R →
    wpAny (model X.prog X.w) X.A (eval iter X.env) (fun v s1 => wpAny (model X.prog X.w) X.A (pyIter v) (PIE X pins σ tg R) X.xe s1) X.xe s
theorem go_of {M : Model} {A : Around} {E : Value → Shared → Prop} {s : Shared} {tg : Expr} {it : Addr} {u : Value} {o : Obj} {n : String} {vs : Array Value} {Q : Unit → Shared → Prop} (ho : s.heap.get? it = some o) (hc : o.cls = .type n) (hd : o.data = .fields vs)
    (hn : ["enumerate", "zip", "dict_itemiterator", "dict_reverseitemiterator", "odict_iterator", "itertools.zip_longest", "itertools.pairwise"].contains n = false) (hQ : Q () s) : wpAny M A (letOwnedTupleGo tg (.ref it) u) Q E s := by
  unfold letOwnedTupleGo
  cases tg <;> first
    | exact wpAny_pure hQ
    | (cases u <;> first
        | exact wpAny_pure hQ
        | (refine wpAny_bind (wpAny_load ho ?_)
           rw [hc, hd]
           show wpAny M A (if (["enumerate", "zip", "dict_itemiterator", "dict_reverseitemiterator", "odict_iterator", "itertools.zip_longest", "itertools.pairwise"].contains n && vs[0]? == some (rawInt _)) = true then _ else _) Q E s
           rw [if_neg (by intro h; rw [hn, Bool.false_and] at h; cases h)]
           exact wpAny_pure hQ))
def Itl (K : PySem.W.Frag) (a : Addr) : It :=
  ⟨fun i H => ∃ xs x, SqL K H a xs ∧ xs[i]? = some x, fun i H x H' => H' = H ∧ ∀ xs, SqL K H a xs → xs[i]? = some x, fun i H => ∃ xs, SqL K H a xs ∧ xs.length ≤ i⟩
def Itr (lo : Int) (n : Nat) : It := ⟨fun i _ => i < n, fun i H x H' => H' = H ∧ x = .int (lo + i), fun i _ => n ≤ i⟩
theorem turn_list {P : Program} {w : World} {K : PySem.W.Frag} {tg : Expr} (a it : Addr) : Turn P w K tg (Itl K a) [it] it (fun i h => h.IsListIter it a i) where
  mem := by simp
  obj := fun i h st b hb => by
    have e : b = it := by simpa using hb
    subst e
    obtain ⟨o, e, c, d⟩ := st
    exact ⟨o, e, fun v z => by rw [d] at z; cases z⟩
  keep := fun i h h' st k => st.at fun o e => k it (by simp) o e
  item := by
    intro X hP hw hK hc i pins s σ H E I hf st hg
    subst hP hw hK
    obtain ⟨xs, x, hq, hx⟩ := hg
    obtain ⟨its, rv, p, hz⟩ := I.list hq
    obtain ⟨u, hu, ru⟩ := rv.get hx
    obtain ⟨f0, f1, f2, f3, f4, f5⟩ := hf it (by simp)
    refine wpAny_pyNext_list_item st p.isList (x := u) (by simpa using hu) fun h' st' sb => ?_
    have I1 : Inv X pins σ H { s with heap := h' } := I.turned (t' := s.toks) (fun b o hb e => (sb.2 b hb).trans e) f0 f1 f3 f4 f5
    obtain ⟨o, e, c, d⟩ := id st'
    exact ⟨u, rfl, go_of (s := { s with heap := h' }) e c d (by decide) ⟨x, H, I1, ru, ⟨rfl, fun ys hy => by rw [I.list_inj hy hq]; exact hx⟩, st', fun b hb => (hf b hb).1⟩⟩
  done := by
    intro X hP hw hK hc i pins s σ H E I hf st hg
    subst hP hw hK
    obtain ⟨xs, hq, hx⟩ := hg
    obtain ⟨its, rv, p, hz⟩ := I.list hq
    obtain ⟨f0, f1, f2, f3, f4, f5⟩ := hf it (by simp)
    have hl := rv.length
    exact wpAny_pyNext_list_end (I.ok.hd hc) st p.isList (by simp; omega) fun h' eb => ⟨rfl, I.turned (t' := s.toks) (fun b o hb e => eb b o hb e) f0 f1 f3 f4 f5⟩
  self := fun _ _ _ _ _ st h => wpAny_pyIter_listiter st h
theorem turn_range {P : Program} {w : World} {K : PySem.W.Frag} {tg : Expr} (it : Addr) (lo : Int) (n : Nat) : Turn P w K tg (Itr lo n) [it] it (fun i h => IsRangeIter h it (lo + (i : Nat) * 1) ((n : Int) - (i : Nat)) 1) where
  mem := by simp
  obj := fun i h st b hb => by
    have e : b = it := by simpa using hb
    subst e
    exact ⟨_, st, fun v z => by
      have z' : Data.fields _ = Data.cell v := z
      cases z'⟩
  keep := fun i h h' st k => k it (by simp) _ st
  item := by
    intro X hP hw hK hc i pins s σ H E I hf st hg
    subst hP hw hK
    obtain ⟨f0, f1, f2, f3, f4, f5⟩ := hf it (by simp)
    have W := Walks.range (prog := X.prog) (w := X.w) (I.ok.hd hc) it lo 1 n
    refine W.item i s _ _ hg st fun v h' tk hv st' kk => ?_
    obtain ⟨t, rfl⟩ := hv
    have I1 : Inv X pins σ H { s with heap := h', toks := tk } := I.turned (fun b o hb e => kk b o (by simpa using hb) e) f0 f1 f3 f4 f5
    refine ⟨_, rfl, go_of (s := { s with heap := h', toks := tk }) (n := "range_iterator") st' rfl rfl (by decide) ⟨.int (lo + i), H, I1, ⟨t, ?_⟩, ⟨rfl, rfl⟩, st', fun b hb => (hf b hb).1⟩⟩
    rw [Int.mul_one]
  done := by
    intro X hP hw hK hc i pins s σ H E I hf st hg
    subst hP hw hK
    obtain ⟨f0, f1, f2, f3, f4, f5⟩ := hf it (by simp)
    exact wpAny_pyNext_range_end (I.ok.hd hc) st (by have : n ≤ i := hg; omega) fun h' eb => ⟨rfl, I.turned (t' := s.toks) (fun b o hb e => eb b o hb e) f0 f1 f3 f4 f5⟩
  self := fun _ _ _ _ _ st h => wpAny_pyIter_rangeiter st h
end L2
namespace L2
open PySem PySem.Spec PyProof.Rows
section
variable {X : Cx} {tg : Expr}
def iList (K : PySem.W.Frag) (tl : TE) : TI := fun σ H R => tl σ H fun x H1 => ∃ a, x = .ref a ∧ (∃ xs, SqL K H1 a xs) ∧ R (Itl K a) H1
theorem pi_list {l : Expr} {tl : TE} (hl : PE X l tl) : PI X tg l (iList X.K tl) := by
  intro pins s σ H R I h
  refine thn (hl pins s σ H _ I h) fun v s1 ⟨x, H1, I1, r1, q1⟩ => ?_
  obtain ⟨a, e, ⟨xs, hq⟩, q⟩ := q1
  subst e
  cases r1
  obtain ⟨its, rv, p, hz⟩ := I1.list hq
  refine wpAny_pyIter_list p.isList ?_
  refine ⟨s1.heap.objs.size, [s1.heap.objs.size], _, _, H1, rfl, I1.kept (t' := s1.toks) fun b o e => Heap.get?_push_of_some _ e, turn_list a _, ⟨_, Heap.get?_push_size _ rfl, rfl, rfl⟩, fun b hb => ?_, q⟩
  have e : b = s1.heap.objs.size := by simpa using hb
  subst e
  exact I1.fpOk (Nat.le_refl _) (I1.hok.fresh (Nat.le_refl _))
theorem range_it {pins : List (Addr × Obj)} {σ : St} {H : Hp} {s : Shared} {R : It → Hp → Prop} {E : Value → Shared → Prop} {lo hi : Int} {t u v : Tok} {tk : Nat} (I : Inv X pins σ H s) (h1 : -(2 ^ 62) ≤ lo) (h2 : lo < 2 ^ 62) (h3 : -(2 ^ 62) ≤ hi) (h4 : hi < 2 ^ 62)
    (q : R (Itr lo (hi - lo).toNat) H) : wpAny (model X.prog X.w) X.A (pyIter (.ref s.heap.objs.size)) (PIE X pins σ tg R) E { s with heap := s.heap.push { cls := .type "range", data := .fields #[.int lo t, .int hi u, .int 1 v] }, toks := tk } := by
  refine wpAny_pyIter_range (IsRange.new ..) (small_one h1 h2 h3 h4) ?_
  have I1 : Inv X pins σ H { s with heap := s.heap.push { cls := .type "range", data := .fields #[.int lo t, .int hi u, .int 1 v] }, toks := tk } := I.kept fun b o e => Heap.get?_push_of_some _ e
  refine ⟨(s.heap.push { cls := .type "range", data := .fields #[.int lo t, .int hi u, .int 1 v] }).objs.size, [(s.heap.push { cls := .type "range", data := .fields #[.int lo t, .int hi u, .int 1 v] }).objs.size], _, _, H, rfl,
    I1.kept (t' := tk) fun b o e => Heap.get?_push_of_some _ e, turn_range _ lo (hi - lo).toNat, ?_, fun b hb => ?_, q⟩
  · have e1 : lo + ((0 : Nat) : Int) * 1 = lo := by simp
    have e2 : (((hi - lo).toNat : Nat) : Int) - ((0 : Nat) : Int) = Builtin.Range.rangeSize lo hi 1 := by rw [rangeSize_one]; split <;> omega
    show IsRangeIter _ _ (lo + ((0 : Nat) : Int) * 1) ((((hi - lo).toNat : Nat) : Int) - ((0 : Nat) : Int)) 1
    rw [e1, e2]
    exact Heap.get?_push_size _ rfl
  · have e : b = (s.heap.push { cls := .type "range", data := .fields #[.int lo t, .int hi u, .int 1 v] }).objs.size := by simpa using hb
    subst e
    exact I1.fpOk (Nat.le_refl _) (I1.hok.fresh (Nat.le_refl _))
def iRng1 (ta : TA) : TI := fun σ H R => ta σ H fun vs H1 => ∃ j : Int, vs = [.int j] ∧ -(2 ^ 62) ≤ j ∧ j < 2 ^ 62 ∧ R (Itr 0 j.toNat) H1
theorem pi_range1 {a : Expr} {ta : TA} {p pos : Pos} (hg : Gl X "range") (hm : X.mg "range" = none) (ha : PA X [a] ta) (hs : starEach [a] X.env = [(false, eval a X.env)] := by rfl) : PI X tg (.Call (.Name "range" p) [a] [] pos) (iRng1 ta) := by
  intro pins s σ H R I h
  refine Call_ (ld_blt I hg hm boot_range (PyProof.Rows.callWith_type1 (thn (ha pos pins s σ H _ I h) fun us s1 ⟨vs, H1, I1, r1, q1⟩ => ?_) hs rfl))
  obtain ⟨j, e, q1, q2, q⟩ := q1
  subst e
  cases r1 with
  | cons r rr =>
    cases rr
    obtain ⟨t, rfl⟩ := r
    exact call_range_1 (range_it I1 (by omega) (by omega) q1 q2 (by simpa using q))
def tFor (wi : TI) (g : TG) (tb : TS) : TS := fun D σ H => wi σ H fun J H1 => ∃ W : Nat → Nat → St → Hp → Prop, (∃ m, W 0 m σ H1) ∧ ∀ i m σ H, W i m σ H →
  (J.stop i H ∧ D.nx σ H) ∨ (J.go i H ∧ ∃ N : St → Hp → Prop, (∀ σ' H', N σ' H' → ∃ m', m' < m ∧ W (i + 1) m' σ' H') ∧ ∀ x H', J.yld i H x H' → g x σ H' fun σ2 H2 => tb { D with nx := N, ct := N, bk := D.nx } σ2 H2)
def pinsAt (fp : List Addr) (h : Heap) : List (Addr × Obj) := fp.filterMap fun b => (h.get? b).map fun o => (b, o)
theorem mem_pinsAt {fp : List Addr} {h : Heap} {b : Addr} {o : Obj} (hb : b ∈ fp) (e : h.get? b = some o) : (b, o) ∈ pinsAt fp h := List.mem_filterMap.mpr ⟨b, hb, by rw [e]; rfl⟩
theorem of_pinsAt {fp : List Addr} {h : Heap} {p : Addr × Obj} (hp : p ∈ pinsAt fp h) : p.1 ∈ fp ∧ h.get? p.1 = some p.2 := by
  obtain ⟨b, hb, e⟩ := List.mem_filterMap.mp hp
  cases q : h.get? b with
  | none => rw [q] at e; cases e
  | some o =>
    rw [q] at e
    have e' : (b, o) = p := Option.some.inj e
    subst e'
    exact ⟨hb, q⟩
theorem Inv.pinned {pins : List (Addr × Obj)} {σ : St} {H : Hp} {s : Shared} {fp : List Addr} (I : Inv X pins σ H s) (hf : ∀ b ∈ fp, FpOk X pins H b) (ho : ∀ b ∈ fp, ∃ o, s.heap.get? b = some o ∧ ∀ v, o.data ≠ .cell v) : Inv X (pins ++ pinsAt fp s.heap) σ H s :=
  I.pins_of fun p hp => (List.mem_append.mp hp).elim (fun z => I.pin p (List.mem_append_right _ z)) fun z => by
    obtain ⟨hb, e⟩ := of_pinsAt z
    obtain ⟨f0, f1, f2, _⟩ := hf p.1 hb
    obtain ⟨o, e', d⟩ := ho p.1 hb
    rw [e] at e'; cases e'
    exact ⟨e, f0, f1, f2, d⟩
theorem Inv.unpinned {pins pl : List (Addr × Obj)} {σ : St} {H : Hp} {s : Shared} (I : Inv X (pins ++ pl) σ H s) : Inv X pins σ H s := I.pins_of fun p hp => I.pin p (List.mem_append_right _ (List.mem_append_left _ hp))
theorem ps_for {iter : Expr} {body : List Stmt} {wi : TI} {g : TG} {tb : TS} {pos : Pos} (hp : PassesOwn (model X.prog X.w) X.A X.env X.xe) (hc : X.calm = true) (hi : PI X tg iter wi) (hg : PG X tg g) (hb : PSs X body tb)
    (hs : ∀ x, foldedSetIterable iter X.env x = pure x := by intro _; rfl) : PS X (.For tg iter body [] pos) (tFor wi g tb) := by
  intro pins s σ H D I h
  refine wpAny_For (thn (hi pins s σ H _ I h) fun v s1 h1 => thn h1 fun itv s2 h2 => ?_) hs
  obtain ⟨it, fp, tn, J, H2, e, I2, T, st2, f2, W, ⟨m0, w0⟩, turn⟩ := h2
  subst e
  -- what stays true of the iterator's objects through the loop
  have stat : ∀ {H' : Hp}, (∀ b ∈ fp, H' b = none) → ∀ b ∈ fp, FpOk X pins H' b := fun hn b hb => ⟨hn b hb, (f2 b hb).2⟩
  refine codeAny_forLoop_any (fun n s' => ∃ i σ' H', Inv X pins σ' H' s' ∧ tn i s'.heap ∧ (∀ b ∈ fp, H' b = none) ∧ W i n σ' H') ?_ m0 ⟨0, σ, H2, I2, st2, fun b hb => (f2 b hb).1, w0⟩
  rintro n s3 ⟨i, σ3, H3, I3, st3, fr3, w3⟩
  rcases turn i n σ3 H3 w3 with ⟨stop, qn⟩ | ⟨go, N, hN, step⟩
  · refine wpAny_passesOwn hp (thn (T.done X rfl rfl rfl hc i pins s3 σ3 H3 X.xe I3 (stat fr3) st3 stop) fun r s4 ⟨hr, I4⟩ => ?_)
    subst hr
    exact wpAny_execs_nil ⟨σ3, H3, I4, qn⟩
  · refine wpAny_passesOwn hp (thn (T.item X rfl rfl rfl hc i pins s3 σ3 H3 X.xe I3 (stat fr3) st3 go) fun r s4 ⟨u, hr, h4⟩ => ?_)
    subst hr
    refine wpAny_passesOwn hp (thn h4 fun _ s5 ⟨x, H5, I5, r5, y5, st5, fr5⟩ => ?_)
    have I5' := I5.pinned (stat fr5) (T.obj _ _ st5)
    refine wpAny_passesOwn hp (thn (hg _ s5 σ3 H5 x u _ I5' r5 (step x H5 y5)) fun _ s6 ⟨σ6, H6, I6, q6⟩ => ?_)
    refine wpAny_passesOwn hp (thn (hb _ s6 σ6 H6 _ I6 q6) fun f s7 q7 => ?_)
    have again : ∀ {σ7 : St} {H7 : Hp}, Inv X (pins ++ pinsAt fp s5.heap) σ7 H7 s7 → N σ7 H7 → ∃ m, m < n ∧ ∃ i σ' H', Inv X pins σ' H' s7 ∧ tn i s7.heap ∧ (∀ b ∈ fp, H' b = none) ∧ W i m σ' H' := fun {σ7 H7} I7 n7 => by
      obtain ⟨m', hm, w7⟩ := hN σ7 H7 n7
      refine ⟨m', hm, i + 1, σ7, H7, I7.unpinned, T.keep _ _ _ st5 fun b hb o e => (I7.pin (b, o) (List.mem_append_right _ (List.mem_append_right _ (mem_pinsAt hb e)))).1, fun b hb => ?_, w7⟩
      obtain ⟨o, e, d⟩ := T.obj _ _ st5 b hb
      exact (I7.pin (b, o) (List.mem_append_right _ (List.mem_append_right _ (mem_pinsAt hb e)))).2.1
    cases f with
    | next => obtain ⟨σ7, H7, I7, n7⟩ := q7; exact again I7 n7
    | cont => obtain ⟨σ7, H7, I7, n7⟩ := q7; exact again I7 n7
    | brk => obtain ⟨σ7, H7, I7, q7⟩ := q7; exact ⟨σ7, H7, I7.unpinned, q7⟩
    | ret v => obtain ⟨x7, σ7, H7, I7, r7, q7⟩ := q7; exact ⟨x7, σ7, H7, I7.unpinned, r7, q7⟩
end
theorem for_list {K : PySem.W.Frag} {a : Addr} {xs : List V} {g : TG} {tb : TS} {D : Ends} {σ : St} {H : Hp} (Pv : Nat → St → Hp → Prop) (h0 : Pv 0 σ H) (hl : ∀ i σ H, i ≤ xs.length → Pv i σ H → SqL K H a xs)
    (hs : ∀ i x σ H, xs[i]? = some x → Pv i σ H → g x σ H fun σ2 H2 => tb { D with nx := Pv (i + 1), ct := Pv (i + 1), bk := D.nx } σ2 H2) (hd : ∀ σ H, Pv xs.length σ H → D.nx σ H) :
    ∃ W : Nat → Nat → St → Hp → Prop, (∃ m, W 0 m σ H) ∧ ∀ i m σ H, W i m σ H →
      ((Itl K a).stop i H ∧ D.nx σ H) ∨ ((Itl K a).go i H ∧ ∃ N : St → Hp → Prop, (∀ σ' H', N σ' H' → ∃ m', m' < m ∧ W (i + 1) m' σ' H') ∧ ∀ x H', (Itl K a).yld i H x H' → g x σ H' fun σ2 H2 => tb { D with nx := N, ct := N, bk := D.nx } σ2 H2) := by
  refine ⟨fun i m σ H => m = xs.length - i ∧ i ≤ xs.length ∧ Pv i σ H, ⟨xs.length, by simp, Nat.zero_le _, h0⟩, ?_⟩
  rintro i m σ H ⟨rfl, hi, p⟩
  have q := hl i σ H hi p
  by_cases hlt : i < xs.length
  · refine .inr ⟨⟨xs, xs[i], q, by simp [hlt]⟩, Pv (i + 1), fun σ' H' p' => ⟨xs.length - (i + 1), by omega, rfl, hlt, p'⟩, fun x H' y => ?_⟩
    obtain ⟨e, y⟩ := y
    subst e
    exact hs i x σ _ (y xs q) p
  · have e : i = xs.length := by omega
    subst e
    exact .inl ⟨⟨xs, q, Nat.le_refl _⟩, hd σ H p⟩
theorem for_range {lo : Int} {n : Nat} {g : TG} {tb : TS} {D : Ends} {σ : St} {H : Hp} (Pv : Nat → St → Hp → Prop) (h0 : Pv 0 σ H)
    (hs : ∀ i σ H, i < n → Pv i σ H → g (.int (lo + i)) σ H fun σ2 H2 => tb { D with nx := Pv (i + 1), ct := Pv (i + 1), bk := D.nx } σ2 H2) (hd : ∀ σ H, Pv n σ H → D.nx σ H) :
    ∃ W : Nat → Nat → St → Hp → Prop, (∃ m, W 0 m σ H) ∧ ∀ i m σ H, W i m σ H →
      ((Itr lo n).stop i H ∧ D.nx σ H) ∨ ((Itr lo n).go i H ∧ ∃ N : St → Hp → Prop, (∀ σ' H', N σ' H' → ∃ m', m' < m ∧ W (i + 1) m' σ' H') ∧ ∀ x H', (Itr lo n).yld i H x H' → g x σ H' fun σ2 H2 => tb { D with nx := N, ct := N, bk := D.nx } σ2 H2) := by
  refine ⟨fun i m σ H => m = n - i ∧ i ≤ n ∧ Pv i σ H, ⟨n, by simp, Nat.zero_le _, h0⟩, ?_⟩
  rintro i m σ H ⟨rfl, hi, p⟩
  by_cases hlt : i < n
  · refine .inr ⟨hlt, Pv (i + 1), fun σ' H' p' => ⟨n - (i + 1), by omega, rfl, hlt, p'⟩, fun x H' y => ?_⟩
    obtain ⟨e, y⟩ := y
    subst e y
    exact hs i σ _ hlt p
  · have e : i = n := by omega
    subst e
    exact .inl ⟨Nat.le_refl _, hd σ H p⟩
end L2
namespace L2
open PySem PySem.Spec PyProof.Rows
abbrev R2 := V → V → Hp → VK → Prop
def OpR (X : Cx) (f : Value → Value → Sem Value) (r : R2) : Prop :=
  ∀ (pins : List (Addr × Obj)) (s : Shared) (σ : St) (H : Hp) (x y : V) (v u : Value) (Q : VK), Inv X pins σ H s → RelV x v → RelV y u → r x y H Q →
    wpAny (model X.prog X.w) X.A (f v u) (EP X pins σ Q) X.xe s
def CallR (X : Cx) (f : Value) (r : List V → Hp → VK → Prop) : Prop :=
  ∀ (pins : List (Addr × Obj)) (s : Shared) (σ : St) (H : Hp) (xs : List V) (us : List Value) (Q : VK), Inv X pins σ H s → Vals xs us → r xs H Q →
    wpAny (model X.prog X.w) X.A (call f us) (EP X pins σ Q) X.xe s
def tOp (r : R2) (ta tb : TE) : TE := fun σ H Q => ta σ H fun x H1 => tb σ H1 fun y H2 => r x y H2 Q
def rI (C : Int → Int → Prop) (g : Int → Int → V) : R2 := fun x y H Q => ∃ i j, x = .int i ∧ y = .int j ∧ C i j ∧ Q (g i j) H
def rI0 (g : Int → Int → V) : R2 := fun x y H Q => ∃ i j, x = .int i ∧ y = .int j ∧ Q (g i j) H
section
variable {X : Cx} {a b c : Expr} {ta tb tc : TE} {pos : Pos}
theorem binT (ha : PE X a ta) (hb : PE X b tb) {pins : List (Addr × Obj)} {s : Shared} {σ : St} {H : Hp} {R : V → V → Hp → Prop} (I : Inv X pins σ H s)
    (h : ta σ H fun x H1 => tb σ H1 fun y H2 => R x y H2) {Q : Value → Shared → Prop} {f : Value → Value → Sem Value}
    (hf : ∀ v u s2 x y H2, Inv X pins σ H2 s2 → RelV x v → RelV y u → R x y H2 → wpAny (model X.prog X.w) X.A (f v u) Q X.xe s2) :
    wpAny (model X.prog X.w) X.A (eval a X.env) (fun v s₁ => wpAny (model X.prog X.w) X.A (eval b X.env) (fun u s₂ => wpAny (model X.prog X.w) X.A (f v u) Q X.xe s₂) X.xe s₁) X.xe s := by
  refine thn (ha pins s σ H _ I h) fun v s1 ⟨x, H1, I1, r1, q1⟩ => ?_
  refine thn (hb pins s1 σ H1 _ I1 q1) fun u s2 ⟨y, H2, I2, r2, q2⟩ => ?_
  exact hf v u s2 x y H2 I2 r1 r2 q2
theorem pe_op {op : Operator} {r : R2} (ho : OpR X (binaryOp op) r) (ha : PE X a ta) (hb : PE X b tb) : PE X (.BinOp a op b pos) (tOp r ta tb) := by
  intro pins s σ H Q I h
  exact wpAny_BinOp (binT ha hb I h fun v u s2 x y H2 I2 rx ry q => ho pins s2 σ H2 x y v u Q I2 rx ry q)
theorem opI {f : Value → Value → Sem Value} {C : Int → Int → Prop} {g : Int → Int → Int}
    (rule : ∀ (i j : Int) (t u : Tok) (s : Shared) (Q : Value → Shared → Prop) (E : Value → Shared → Prop), C i j → Q (.int (g i j) s.toks) { s with toks := s.toks + 1 } → wpAny (model X.prog X.w) X.A (f (.int i t) (.int j u)) Q E s) :
    OpR X f (rI C fun i j => .int (g i j)) := by
  intro pins s σ H x y v u Q I rx ry h
  obtain ⟨i, j, rfl, rfl, hc, q⟩ := h
  obtain ⟨t, rfl⟩ := rx
  obtain ⟨t', rfl⟩ := ry
  exact rule i j t t' s _ _ hc ⟨.int (g i j), H, I.tok _, ⟨_, rfl⟩, q⟩
theorem opI0 {f : Value → Value → Sem Value} {g : Int → Int → Int}
    (rule : ∀ (i j : Int) (t u : Tok) (s : Shared) (Q : Value → Shared → Prop) (E : Value → Shared → Prop), Q (.int (g i j) s.toks) { s with toks := s.toks + 1 } → wpAny (model X.prog X.w) X.A (f (.int i t) (.int j u)) Q E s) :
    OpR X f (rI0 fun i j => .int (g i j)) := by
  intro pins s σ H x y v u Q I rx ry h
  obtain ⟨i, j, rfl, rfl, q⟩ := h
  obtain ⟨t, rfl⟩ := rx
  obtain ⟨t', rfl⟩ := ry
  exact rule i j t t' s _ _ ⟨.int (g i j), H, I.tok _, ⟨_, rfl⟩, q⟩
theorem opB0 {f : Value → Value → Sem Value} {g : Int → Int → Bool}
    (rule : ∀ (i j : Int) (t u : Tok) (s : Shared) (Q : Value → Shared → Prop) (E : Value → Shared → Prop), Q (.bool (g i j)) s → wpAny (model X.prog X.w) X.A (f (.int i t) (.int j u)) Q E s) :
    OpR X f (rI0 fun i j => .bl (g i j)) := by
  intro pins s σ H x y v u Q I rx ry h
  obtain ⟨i, j, rfl, rfl, q⟩ := h
  obtain ⟨t, rfl⟩ := rx
  obtain ⟨t', rfl⟩ := ry
  exact rule i j t t' s _ _ ⟨.bl (g i j), H, I, rfl, q⟩
def CDiv (i j : Int) : Prop := 0 < j ∧ j < 1073741824
def CMul (i j : Int) : Prop := (-(2 ^ 64) < i ∧ i < 2 ^ 64) ∨ (-(2 ^ 64) < j ∧ j < 2 ^ 64)
theorem CMul.ok {i j : Int} (h : CMul i j) : IntMulOk i j := by
  rcases h with ⟨h1, h2⟩ | ⟨h1, h2⟩
  · exact .of_left (intBits_le_64 h1 h2)
  · exact .of_right (intBits_le_64 h1 h2)
theorem op_add : OpR X (binaryOp .Add) (rI0 fun i j => .int (i + j)) := opI0 fun _ _ _ _ _ _ _ q => add_int q
theorem op_sub : OpR X (binaryOp .Sub) (rI0 fun i j => .int (i - j)) := opI0 fun _ _ _ _ _ _ _ q => sub_int q
theorem op_mul : OpR X (binaryOp .Mult) (rI CMul fun i j => .int (i * j)) := opI fun _ _ _ _ _ _ _ hc q => mul_int q hc.ok
theorem op_fdiv : OpR X (binaryOp .FloorDiv) (rI CDiv fun i j => .int (i / j)) := opI fun i j _ _ _ _ _ hc q => by
  have h1 : (0 : Int) < j := hc.1
  have h2 : j < 1073741824 := hc.2
  exact floordiv_int (by omega) (by rw [Int.fdiv_eq_ediv_of_nonneg i (by omega)]; exact q) (.inl (PyProof.noPylong_small (by omega)))
theorem op_mod : OpR X (binaryOp .Mod) (rI (fun _ j => 0 < j) fun i j => .int (i % j)) := opI fun i j _ _ _ _ _ hc q => by
  have h1 : (0 : Int) < j := hc
  exact mod_int' (by omega) (by rw [Int.fmod_eq_emod_of_nonneg i (by omega)]; exact q)
end
def scal : V → V → Bool
  | .non, .non => true | .non, .int _ => true | .int _, .non => true | .non, .bl _ => true | .bl _, .non => true | .non, .str _ => true | .str _, .non => true
  | .int _, .int _ => true | .bl _, .bl _ => true | .str _, .str _ => true | .byt _, .byt _ => true
  | .int _, .str _ => true | .str _, .int _ => true | .bl _, .str _ => true | .str _, .bl _ => true
  | _, _ => false
def rEq : R2 := fun x y H Q => scal x y = true ∧ Q (.bl (decide (x = y))) H
def rNe : R2 := fun x y H Q => scal x y = true ∧ Q (.bl (!decide (x = y))) H
theorem dec_int {i j : Int} : decide (V.int i = V.int j) = (i == j) := by
  rw [Bool.eq_iff_iff]
  simp
theorem dec_bl {i j : Bool} : decide (V.bl i = V.bl j) = (i == j) := by
  rw [Bool.eq_iff_iff]
  simp
theorem dec_str {i j : Str} : decide (V.str i = V.str j) = (i == j) := by
  rw [Bool.eq_iff_iff]
  simp
theorem dec_byt {i j : Array UInt8} : decide (V.byt i = V.byt j) = (i.toList == j.toList) := by
  rw [Bool.eq_iff_iff]
  cases i
  cases j
  simp
section
variable {X : Cx} {a b c : Expr} {ta tb tc : TE} {pos : Pos}
theorem fin_bl {pins : List (Addr × Obj)} {σ : St} {H : Hp} {s : Shared} {Q : VK} {k k' : Bool} (I : Inv X pins σ H s) (q : Q (.bl k) H) (e : k = k') : EP X pins σ Q (.bool k') s := by
  subst e
  exact ⟨.bl k, H, I, rfl, q⟩
theorem op_eq : OpR X (compareOp .Eq) rEq := by
  intro pins s σ H x y v u Q I rx ry h
  obtain ⟨hs, q⟩ := h
  cases x with
  | non =>
    cases rx
    cases y with
    | non => cases ry; exact PySem.EqNone.eq_none_none (fin_bl I q (by simp))
    | bl j => cases ry; exact PySem.EqNone.eq_none_bool (fin_bl I q (by simp))
    | int j => obtain ⟨t', rfl⟩ := ry; exact PySem.EqNone.eq_none_int (fin_bl I q (by simp))
    | str j => obtain ⟨t', rfl⟩ := ry; exact PySem.EqNone.eq_none_str (fin_bl I q (by simp))
    | _ => exact absurd (show false = true from hs) Bool.false_ne_true
  | bl i =>
    cases rx
    cases y with
    | non => cases ry; exact PySem.EqNone.eq_bool_none (fin_bl I q (by simp))
    | bl j => cases ry; exact eq_bool (fin_bl I q dec_bl)
    | str j => obtain ⟨t', rfl⟩ := ry; exact PySem.EqMixed.eq_bool_str (fin_bl I q (by simp))
    | _ => exact absurd (show false = true from hs) Bool.false_ne_true
  | int i =>
    obtain ⟨t, rfl⟩ := rx
    cases y with
    | non => cases ry; exact PySem.EqNone.eq_int_none (fin_bl I q (by simp))
    | int j => obtain ⟨t', rfl⟩ := ry; exact eq_int (fin_bl I q dec_int)
    | str j => obtain ⟨t', rfl⟩ := ry; exact PySem.EqMixed.eq_int_str (fin_bl I q (by simp))
    | _ => exact absurd (show false = true from hs) Bool.false_ne_true
  | str i =>
    obtain ⟨t, rfl⟩ := rx
    cases y with
    | non => cases ry; exact PySem.EqNone.eq_str_none (fin_bl I q (by simp))
    | bl j => cases ry; exact PySem.EqMixed.eq_str_bool (fin_bl I q (by simp))
    | int j => obtain ⟨t', rfl⟩ := ry; exact PySem.EqMixed.eq_str_int (fin_bl I q (by simp))
    | str j => obtain ⟨t', rfl⟩ := ry; exact eq_str (fin_bl I q dec_str)
    | _ => exact absurd (show false = true from hs) Bool.false_ne_true
  | byt i =>
    obtain ⟨t, rfl⟩ := rx
    cases y with
    | byt j => obtain ⟨t', rfl⟩ := ry; exact PySem.W.eq_bytes (fin_bl I q dec_byt)
    | _ => exact absurd (show false = true from hs) Bool.false_ne_true
  | _ => cases y <;> exact absurd (show false = true from hs) Bool.false_ne_true
theorem op_ne : OpR X (compareOp .NotEq) rNe := by
  intro pins s σ H x y v u Q I rx ry h
  obtain ⟨hs, q⟩ := h
  cases x with
  | non =>
    cases rx
    cases y with
    | non => cases ry; exact PySem.EqNone.ne_none_none (fin_bl I q (by simp))
    | bl j => cases ry; exact PySem.EqNone.ne_none_bool (fin_bl I q (by simp))
    | int j => obtain ⟨t', rfl⟩ := ry; exact PySem.EqNone.ne_none_int (fin_bl I q (by simp))
    | str j => obtain ⟨t', rfl⟩ := ry; exact PySem.EqNone.ne_none_str (fin_bl I q (by simp))
    | _ => exact absurd (show false = true from hs) Bool.false_ne_true
  | bl i =>
    cases rx
    cases y with
    | non => cases ry; exact PySem.EqNone.ne_bool_none (fin_bl I q (by simp))
    | bl j => cases ry; exact ne_bool (fin_bl I q (congrArg not dec_bl))
    | str j => obtain ⟨t', rfl⟩ := ry; exact PySem.EqMixed.ne_bool_str (fin_bl I q (by simp))
    | _ => exact absurd (show false = true from hs) Bool.false_ne_true
  | int i =>
    obtain ⟨t, rfl⟩ := rx
    cases y with
    | non => cases ry; exact PySem.EqNone.ne_int_none (fin_bl I q (by simp))
    | int j => obtain ⟨t', rfl⟩ := ry; exact ne_int (fin_bl I q (congrArg not dec_int))
    | str j => obtain ⟨t', rfl⟩ := ry; exact PySem.EqMixed.ne_int_str (fin_bl I q (by simp))
    | _ => exact absurd (show false = true from hs) Bool.false_ne_true
  | str i =>
    obtain ⟨t, rfl⟩ := rx
    cases y with
    | non => cases ry; exact PySem.EqNone.ne_str_none (fin_bl I q (by simp))
    | bl j => cases ry; exact PySem.EqMixed.ne_str_bool (fin_bl I q (by simp))
    | int j => obtain ⟨t', rfl⟩ := ry; exact PySem.EqMixed.ne_str_int (fin_bl I q (by simp))
    | str j => obtain ⟨t', rfl⟩ := ry; exact ne_str (fin_bl I q (congrArg not dec_str))
    | _ => exact absurd (show false = true from hs) Bool.false_ne_true
  | byt i =>
    obtain ⟨t, rfl⟩ := rx
    cases y with
    | byt j => obtain ⟨t', rfl⟩ := ry; exact PySem.W.ne_bytes (fin_bl I q (congrArg not dec_byt))
    | _ => exact absurd (show false = true from hs) Bool.false_ne_true
  | _ => cases y <;> exact absurd (show false = true from hs) Bool.false_ne_true
theorem op_lt : OpR X (compareOp .Lt) (rI0 fun i j => .bl (decide (i < j))) := opB0 fun _ _ _ _ _ _ _ q => lt_int q
theorem op_le : OpR X (compareOp .LtE) (rI0 fun i j => .bl (decide (i ≤ j))) := opB0 fun _ _ _ _ _ _ _ q => le_int q
theorem op_gt : OpR X (compareOp .Gt) (rI0 fun i j => .bl (decide (j < i))) := opB0 fun _ _ _ _ _ _ _ q => gt_int q
theorem op_ge : OpR X (compareOp .GtE) (rI0 fun i j => .bl (decide (j ≤ i))) := opB0 fun _ _ _ _ _ _ _ q => ge_int q
theorem op_isN : OpR X (compareOp .Is) (fun x y H Q => y = .non ∧ Q (.bl (decide (x = .non))) H) := by
  intro pins s σ H x y v u Q I rx ry h
  obtain ⟨rfl, q⟩ := h
  cases ry
  refine is_none_gen (fin_bl I q ?_)
  cases x <;> first
    | (cases rx; rfl)
    | (obtain ⟨t, rfl⟩ := rx; rfl)
theorem op_notN : OpR X (compareOp .IsNot) (fun x y H Q => y = .non ∧ Q (.bl (!decide (x = .non))) H) := by
  intro pins s σ H x y v u Q I rx ry h
  obtain ⟨rfl, q⟩ := h
  cases ry
  refine isnot_none_gen (fin_bl I q ?_)
  cases x <;> first
    | (cases rx; rfl)
    | (obtain ⟨t, rfl⟩ := rx; rfl)
theorem nomark (b : Expr) {op : CmpOp} (h : op ≠ .In := by decide) (h2 : op ≠ .NotIn := by decide) : behindInMarks op b = false := by
  have e1 : (op == CmpOp.In) = false := by cases op <;> first | rfl | exact absurd rfl h
  have e2 : (op == CmpOp.NotIn) = false := by cases op <;> first | rfl | exact absurd rfl h2
  cases b <;> simp [behindInMarks, e1, e2]
theorem pe_cmpR {op : CmpOp} {r : R2} (ho : OpR X (compareOp op) r) (ha : PE X a ta) (hb : PE X b tb) (hm : behindInMarks op b = false) : PE X (.Compare a [op] [b] pos) (tOp r ta tb) := by
  intro pins s σ H Q I h
  exact wpAny_Compare1 (binT ha hb I h fun v u s2 x y H2 I2 rx ry q => ho pins s2 σ H2 x y v u Q I2 rx ry q) hm
def tTest (t : TE) : TT := fun σ H Q => t σ H fun x H' => ∃ k, x = .bl k ∧ Q k H'
theorem pt_cmpR {op : CmpOp} {r : R2} (ho : OpR X (compareOp op) r) (ha : PE X a ta) (hb : PE X b tb) (hm : behindInMarks op b = false) : PT X (.Compare a [op] [b] pos) (tTest (tOp r ta tb)) := by
  intro pins s σ H Q I h
  refine wpAny_isTrue_Compare1 (thn (ha pins s σ H _ I h) fun v s1 ⟨x, H1, I1, r1, q1⟩ => thn (hb pins s1 σ H1 _ I1 q1) fun u s2 ⟨y, H2, I2, r2, q2⟩ =>
    thn (ho pins s2 σ H2 x y v u _ I2 r1 r2 q2) fun c s3 ⟨z, H3, I3, r3, k, e, q3⟩ => ?_) hm
  subst e
  cases r3
  exact wpAny_truthy_bool ⟨H3, I3, q3⟩
theorem line63 : (sizeLine : Nat) < 2 ^ 63 := by rw [sizeLine_eq]; decide
theorem vals1 {x : V} {us : List Value} (r : Vals [x] us) : ∃ u, us = [u] ∧ RelV x u := by
  cases r with
  | cons r1 r2 => cases r2; exact ⟨_, rfl, r1⟩
end
end L2
namespace L2
open PySem PySem.Spec PyProof.Rows
structure ObjM (h : Heap) (x dx C : Addr) (mA : Str → Option Value) : Prop where
  obj : h.get? x = some (PySem.W.instObj C dx)
  ns : h.Ns1 dx mA
  ne : dx ≠ x
theorem lookIn_ns {h : Heap} {dx : Addr} {mA : Str → Option Value} (n : h.Ns1 dx mA) : ∃ od, h.get? dx = some od ∧ ∀ name, PySem.W.lookIn name od = some (mA name) := by
  obtain ⟨o, es, ep, ho, hd, hk, _, hm⟩ := n
  refine ⟨o, ho, fun name => ?_⟩
  have e := hm name
  unfold nsFind findBy at e
  rw [← Array.find?_toList] at e
  unfold PySem.W.lookIn
  rw [hd]
  dsimp only
  split
  · rename_i y q
    rw [q] at e
    exact congrArg some e
  · rename_i q
    rw [q] at e
    have a : es.toList.any (·.refKey) = false := by
      rw [List.any_eq_false]
      intro y hy
      obtain ⟨z, t, hkey⟩ := hk y (Array.mem_toList_iff.mp hy)
      simp [DictEntry.refKey, hkey]
    have a' : ¬ es.toList.any (·.refKey) = true := by rw [a]; exact Bool.false_ne_true
    rw [if_neg a']
    exact congrArg some e
theorem ObjM.look {h : Heap} {x dx C : Addr} {mA : Str → Option Value} (I : ObjM h x dx C mA) : ∃ od, PySem.W.InstAt h x (PySem.W.instObj C dx) C (some od) ∧ ∀ name, PySem.W.lookIn name od = some (mA name) :=
  let ⟨od, ho, hl⟩ := lookIn_ns I.ns
  ⟨od, ⟨I.obj, rfl, rfl, ho⟩, hl⟩
section
variable {prog : Program} {w : World} {A : Around} {E : Value → Shared → Prop} {s : Shared} {K : PySem.W.Frag} {x dx C f : Addr} {mA : Str → Option Value} {name : Str} {v : Value}
theorem get_map {expr : Bool} {Q : Value → Shared → Prop} (X : K.In s.heap) (I : ObjM s.heap x dx C mA) (hg : PySem.W.plainGet K C name = true) (hh : PySem.W.hasDictIn K C = true)
    (ha : PySem.W.findIn K (.ref C) name = some none) (hv : mA name = some v) (hv' : PySem.W.handedIn v = true) (h : Q v { s with toks := s.toks + 1 }) :
    wpAny (model prog w) A (getAttr (.ref x) name expr) Q E s := by
  obtain ⟨od, J, hl⟩ := I.look
  exact PySem.W.get_value X J (PySem.W.plainGet_of hg).1 (PySem.W.findObj_own hh ha rfl (by rw [hl, hv])) hv' h
theorem get_meth {pl : Sem Bool} {Q : Value × List Value → Shared → Prop} (X : K.In s.heap) (I : ObjM s.heap x dx C mA) (hg : PySem.W.plainGet K C name = true)
    (hf : PySem.W.findIn K (.ref C) name = some (some (.ref f))) (ht : PySem.W.isFn K (.ref f) = true) (hv : mA name = none) (h : Q (.ref f, [.ref x]) s) :
    wpAny (model prog w) A (getMethod (.ref x) name pl) Q E s := by
  obtain ⟨od, J, hl⟩ := I.look
  exact PySem.W.method_fn X J (PySem.W.plainGet_of hg).1 (PySem.W.plainGet_of hg).2 hf (beq_iff_eq.mp ht) (by show (PySem.W.lookIn name od).map (·.isSome) = some false; rw [hl, hv]; rfl) h
theorem set_map {ns : List Str} {Q : Unit → Shared → Prop} (X : K.In s.heap) (I : ObjM s.heap x dx C mA)
    (hs : PySem.W.findIn K (.ref C) "__setattr__" = some (some (.builtin "object.__setattr__"))) (hp : PySem.W.plainOver K C = true) (ht : PySem.W.takerIn K C name = some none) (hh : PySem.W.hasDictIn K C = true)
    (hw : PySem.Within mA ns) (hsz : ns.length ≤ sizeLine)
    (h : ∀ h', ObjM h' x dx C (fun y => if y = name then some v else mA y) → Heap.SameBut dx s.heap h' → Q () { s with heap := h', toks := s.toks + 2 }) :
    wpAny (model prog w) A (setAttr (.ref x) name v) Q E s := by
  obtain ⟨od, J, hl⟩ := I.look
  refine PySem.W.set_plain X J hs (PySem.W.osa_open (s := { s with toks := s.toks + 1 }) (r := none) X J hp ht fun b => ?_)
  obtain ⟨cd, hc, hd'⟩ := PySem.W.any_some hh
  have hx : s.heap.get? x = some ⟨.ref C, some dx, .plain, #[]⟩ := I.obj
  refine wpAny_bind (wpAny_pure (wpAny_bind (wpAny_bind (wpAny_loadPart hx (wpAny_bind (PySem.W.Looks.here (s := { s with toks := s.toks + 1 }) (PySem.W.looks_clsIn X hc) ?_))))))
  rw [hd']
  refine wpAny_pure (a := some dx) (wpAny_bind (wpAny_pure (wpAny_bind ?_)))
  refine wpAny_nsSet1 (s := { s with toks := s.toks + 1 }) I.ns fun h' hn2 hs2 => ?_
  obtain ⟨oD, esD, epD, hoD, hdD, hcD⟩ := hn2.count (PySem.Within.cons name v hw)
  refine wpAny_bind (wpAny_lookBehind hoD (by rw [hdD]; exact pastItsLine_dict (Nat.le_trans hcD (by rw [List.length_cons]; omega))) ?_)
  exact wpAny_pure (h _ ⟨(hs2.2 _ (Ne.symm I.ne)).trans I.obj, hn2, I.ne⟩ hs2)
theorem make_map {R : Result → Shared → Prop} {vs : List Value} {kw : List (Str × Value)} (X : K.In s.heap) (hm : PySem.W.makesIn K C = true)
    (hi : PySem.W.findIn K (.ref C) "__init__" = some (some (.ref f))) (hf : PySem.W.typeIn K (.ref f) = some (.type "function"))
    (h : codeAny (model prog w) (A.under (.builtin "type.__call__" ⟨.ref C :: vs, kw⟩)) (.call (.ref f) ⟨.ref (s.heap.objs.size + 1) :: vs, kw⟩) (PySem.W.InitBack (s.heap.objs.size + 1) R)
      { s with heap := (s.heap.push PySem.W.emptyDict).push (PySem.W.instObj C s.heap.objs.size) }) :
    codeAny (model prog w) A (.call (.ref C) ⟨vs, kw⟩) R s := by
  obtain ⟨hh, g, d, t, os⟩ := s
  exact PySem.W.make_core (PySem.W.makes_of X hm) (PySem.W.looks_findIn X hi) (fun self => PySem.W.bind_fn X self hf) (.inl rfl) h
end
def putF (f : Str) (v : V) : List (Str × V) → List (Str × V)
  | [] => [(f, v)]
  | (g, x) :: r => if g = f then (g, v) :: r else (g, x) :: putF f v r
theorem lookup_putF (f g : Str) (v : V) : ∀ fs : List (Str × V), (putF f v fs).lookup g = if g = f then some v else fs.lookup g
  | [] => by
    show List.lookup g [(f, v)] = _
    by_cases h : g = f
    · have hb : (g == f) = true := beq_iff_eq.mpr h
      simp only [List.lookup, hb, if_pos h]
    · have hb : (g == f) = false := beq_eq_false_iff_ne.mpr h
      simp only [List.lookup, hb, if_neg h]
  | (k, x) :: r => by
    have ih := lookup_putF f g v r
    rw [show putF f v ((k, x) :: r) = (if k = f then (k, v) :: r else (k, x) :: putF f v r) from rfl]
    by_cases hk : k = f
    · rw [if_pos hk]
      by_cases h : g = k
      · have hb : (g == k) = true := beq_iff_eq.mpr h
        simp only [List.lookup, hb, if_pos (h.trans hk)]
      · have hb : (g == k) = false := beq_eq_false_iff_ne.mpr h
        simp only [List.lookup, hb, if_neg (fun e : g = f => h (e.trans hk.symm))]
    · rw [if_neg hk]
      by_cases h : g = k
      · have hb : (g == k) = true := beq_iff_eq.mpr h
        simp only [List.lookup, hb, if_neg (fun e : g = f => hk (h.symm.trans e))]
      · have hb : (g == k) = false := beq_eq_false_iff_ne.mpr h
        simp only [List.lookup, hb]
        exact ih
theorem keys_putF (f : Str) (v : V) : ∀ fs : List (Str × V), f ∈ (putF f v fs).map (·.1) ∧ ∀ g, g ∈ fs.map (·.1) → g ∈ (putF f v fs).map (·.1)
  | [] => ⟨by simp [putF], fun g h => by simp at h⟩
  | (k, x) :: r => by
    obtain ⟨i1, i2⟩ := keys_putF f v r
    rw [show putF f v ((k, x) :: r) = (if k = f then (k, v) :: r else (k, x) :: putF f v r) from rfl]
    by_cases hk : k = f
    · rw [if_pos hk]
      subst hk
      exact ⟨by simp, fun g h => by simpa using h⟩
    · rw [if_neg hk]
      refine ⟨?_, fun g h => ?_⟩
      · rw [List.map_cons]
        exact List.mem_cons_of_mem _ i1
      · rw [List.map_cons] at h ⊢
        rcases List.mem_cons.mp h with e | e
        · exact List.mem_cons.mpr (.inl e)
        · exact List.mem_cons_of_mem _ (i2 g e)
theorem length_putF (f : Str) (v : V) : ∀ fs : List (Str × V), (putF f v fs).length ≤ fs.length + 1
  | [] => by simp [putF]
  | (k, x) :: r => by
    have ih := length_putF f v r
    rw [show putF f v ((k, x) :: r) = (if k = f then (k, v) :: r else (k, x) :: putF f v r) from rfl]
    by_cases hk : k = f
    · rw [if_pos hk, List.length_cons, List.length_cons]; omega
    · rw [if_neg hk, List.length_cons, List.length_cons]; omega
theorem RelO.some_of {v : V} {o : Option Value} (r : RelO (some v) o) : ∃ u, o = some u ∧ RelV v u := by
  cases o with
  | none => exact (show False from r).elim
  | some u => exact ⟨u, rfl, r⟩
theorem RelO.none_of {o : Option Value} (r : RelO none o) : o = none := by
  cases o with
  | none => rfl
  | some u => exact (show False from r).elim
theorem handed_of {v : V} {u : Value} (r : RelV v u) : PySem.W.handedIn u = true := by
  cases v with
  | non => cases (show u = Value.none from r); rfl
  | bl b => cases (show u = Value.bool b from r); rfl
  | int i => obtain ⟨t, e⟩ := (show ∃ t, u = Value.int i t from r); cases e; rfl
  | str x => obtain ⟨t, e⟩ := (show ∃ t, u = Value.str x t from r); cases e; rfl
  | byt b => obtain ⟨t, e⟩ := (show ∃ t, u = Value.bytes b t from r); cases e; rfl
  | flt b => obtain ⟨t, e⟩ := (show ∃ t, u = Value.float b t from r); cases e; rfl
  | ref a => cases (show u = Value.ref a from r); rfl
  | ty n => cases (show u = Value.type n from r); rfl
section
variable {P : Program} {w : World} {H H' : Hp} {h h' : Heap} {a C dx : Addr} {fs fs' : List (Str × V)}
theorem ins_get (hok : HOk P w H h) (e : H a = some (.ins C dx fs)) : ∃ mA, ObjM h a dx C mA ∧ (∀ f, RelO (fs.lookup f) (mA f)) ∧ PySem.Within mA (fs.map (·.1)) ∧ fs.length ≤ 1000 ∧ H dx = some (.own a) := by
  obtain ⟨d, z, ne, ob, mA, n, r, q⟩ := (show ObjOk P w H h a (.ins C dx fs) from hok a _ e)
  exact ⟨mA, ⟨ob, n, ne⟩, r, q, z, d⟩
end
structure Cls (K : PySem.W.Frag) (C : Addr) : Prop where
  pg : PySem.W.plainGet K C Str.empty = true
  hd : PySem.W.hasDictIn K C = true
  po : PySem.W.plainOver K C = true
  sa : PySem.W.findIn K (.ref C) "__setattr__" = some (some (.builtin "object.__setattr__"))
theorem Cls.get {K : PySem.W.Frag} {C : Addr} (c : Cls K C) (f : Str) : PySem.W.plainGet K C f = true := c.pg
def NoAttr (K : PySem.W.Frag) (C : Addr) (f : Str) : Prop := PySem.W.findIn K (.ref C) f = some none
theorem NoAttr.taker {K : PySem.W.Frag} {C : Addr} {f : Str} (n : NoAttr K C f) : PySem.W.takerIn K C f = some none := by
  unfold PySem.W.takerIn
  rw [show PySem.W.findIn K (.ref C) f = some none from n]
  rfl
structure Meth (K : PySem.W.Frag) (C : Addr) (m : Str) (f : Addr) : Prop where
  at_ : PySem.W.findIn K (.ref C) m = some (some (.ref f))
  fn : PySem.W.isFn K (.ref f) = true
  kp : PySem.W.keepIn K (.ref f) = true
section
variable {X : Cx} {pins : List (Addr × Obj)} {σ : St} {H : Hp} {s : Shared} {a C dx : Addr} {fs : List (Str × V)} {f : Str} {v : V} {A : Around} {E : Value → Shared → Prop}
theorem getattr_ok {b : Bool} {Q : Value → Shared → Prop} (I : Inv X pins σ H s) (e : H a = some (.ins C dx fs)) (c : Cls X.K C) (n : NoAttr X.K C f) (l : fs.lookup f = some v)
    (h : ∀ u s', Inv X pins σ H s' → RelV v u → Q u s') : wpAny (model X.prog X.w) A (getAttr (.ref a) f b) Q E s := by
  obtain ⟨mA, O, r, _, _, _⟩ := ins_get I.hok e
  obtain ⟨u, hu, ru⟩ := RelO.some_of (v := v) (o := mA f) (by rw [← l]; exact r f)
  exact get_map I.kIn O (c.get f) c.hd n hu (handed_of ru) (h u _ (I.tok _) ru)
theorem getmeth_ok {m : Str} {g : Addr} {pl : Sem Bool} {Q : Value × List Value → Shared → Prop} (I : Inv X pins σ H s) (e : H a = some (.ins C dx fs)) (c : Cls X.K C) (k : Meth X.K C m g) (l : fs.lookup m = none)
    (h : Q (.ref g, [.ref a]) s) : wpAny (model X.prog X.w) A (getMethod (.ref a) m pl) Q E s := by
  obtain ⟨mA, O, r, _, _, _⟩ := ins_get I.hok e
  have hn : mA m = none := RelO.none_of (by rw [← l]; exact r m)
  exact get_meth I.kIn O (c.get m) k.at_ k.fn hn h
theorem setattr_ok {y : V} {u : Value} {Q : Unit → Shared → Prop} (I : Inv X pins σ H s) (e : H a = some (.ins C dx fs)) (c : Cls X.K C) (n : NoAttr X.K C f) (hl : fs.length < 1000) (ry : RelV y u)
    (h : ∀ s', Inv X pins σ (upd H a (.ins C dx (putF f y fs))) s' → Q () s') : wpAny (model X.prog X.w) A (setAttr (.ref a) f u) Q E s := by
  obtain ⟨mA, O, r, wi, _, ho⟩ := ins_get I.hok e
  have hz : (fs.map (·.1)).length ≤ sizeLine := by rw [List.length_map, sizeLine_eq]; omega
  refine set_map I.kIn O c.sa c.po n.taker c.hd wi hz fun h' O' sb => h _ ?_
  have hd : ∃ o, h'.get? dx = some o := let ⟨o, _, _, e', _⟩ := O'.ns; ⟨o, e'⟩
  refine I.write (x := a) (e := dx) (by rw [e]; exact True.intro) (.inr ho) (fun b q hb z => (sb.2 b hb).trans z) hd ?_
  refine ⟨by rw [upd_ne O.ne]; exact ho, ?_, O.ne, O'.obj, _, O'.ns, fun g => ?_, fun g hg => ?_⟩
  · have := length_putF f y fs; omega
  · show RelO ((putF f y fs).lookup g) (if g = f then some u else mA g)
    rw [lookup_putF]
    by_cases q : g = f
    · rw [if_pos q, if_pos q]; exact ry
    · rw [if_neg q, if_neg q]; exact r g
  · by_cases q : g = f
    · rw [q]; exact (keys_putF f y fs).1
    · refine (keys_putF f y fs).2 g (wi g fun z => hg ?_)
      show (if g = f then some u else mA g) = none
      rw [if_neg q]; exact z
theorem Inv.made (I : Inv X pins σ H s) : Inv X pins σ (upd (upd H s.heap.objs.size (.own (s.heap.objs.size + 1))) (s.heap.objs.size + 1) (.ins C s.heap.objs.size []))
    { s with heap := (s.heap.push PySem.W.emptyDict).push (PySem.W.instObj C s.heap.objs.size) } := by
  have e1 : (s.heap.push PySem.W.emptyDict).get? s.heap.objs.size = some PySem.W.emptyDict := Heap.get?_push_size s.heap rfl
  have e2 : ((s.heap.push PySem.W.emptyDict).push (PySem.W.instObj C s.heap.objs.size)).get? (s.heap.objs.size + 1) = some (PySem.W.instObj C s.heap.objs.size) := by
    have := Heap.get?_push_size (s.heap.push PySem.W.emptyDict) (o := PySem.W.instObj C s.heap.objs.size) rfl
    rwa [Heap.size_push] at this
  have e3 : (s.heap.push PySem.W.emptyDict).Ns s.heap.objs.size (fun _ => none) := ⟨PySem.W.emptyDict, #[], _, e1, rfl, (fun e he => absurd he (by simp)), fun _ => rfl⟩
  have I1 := I.laid (a := s.heap.objs.size) (o := .own (s.heap.objs.size + 1)) (h' := s.heap.push PySem.W.emptyDict) (t' := s.toks) (fun b u q => Heap.get?_push_of_some _ q) (Nat.le_refl _) ⟨_, e1⟩
  refine I1.laid (a := s.heap.objs.size + 1) (o := .ins C s.heap.objs.size []) (t' := s.toks) (fun b u q => Heap.get?_push_of_some _ q) (Nat.le_of_eq (Heap.size_push _ _)) ?_
  have ne : s.heap.objs.size ≠ s.heap.objs.size + 1 := Nat.ne_of_lt (Nat.lt_succ_self _)
  refine ⟨by rw [upd_ne ne, upd_same], Nat.zero_le _, ne, e2, fun _ => none, (Heap.Ns1.of_empty e3).at fun o q => Heap.get?_push_of_some _ q, fun _ => True.intro, fun y hy => absurd rfl hy⟩
theorem attr_of {prog : Program} {w : World} {env : Env} {e : Expr} {f : Str} {pos : Pos} {s : Shared} {Q : Value → Shared → Prop} (hb : attributeBase e f env (eval e env) = eval e env)
    (h : wpAny (model prog w) A (eval e env) (fun o s₁ => wpAny (model prog w) A (getAttr o f true) Q E s₁) E s) : wpAny (model prog w) A (eval (.Attribute e f pos) env) Q E s :=
  Attribute_any_ h (by rw [arm_eval_Attribute, hb])
end
def tFld (K : PySem.W.Frag) (ta : TE) (f : Str) : TE := fun σ H Q => ta σ H fun x H1 => ∃ a C dx fs v, x = .ref a ∧ H1 a = some (.ins C dx fs) ∧ Cls K C ∧ NoAttr K C f ∧ fs.lookup f = some v ∧ Q v H1
def sFld (K : PySem.W.Frag) (ta tv : TE) (f : Str) : TS := fun D σ H => tv σ H fun y H1 => ta σ H1 fun x H2 => ∃ a C dx fs, x = .ref a ∧ H2 a = some (.ins C dx fs) ∧ Cls K C ∧ NoAttr K C f ∧ fs.length < 1000 ∧
  D.nx σ (upd H2 a (.ins C dx (putF f y fs)))
section
variable {X : Cx} {o e value : Expr} {f : Str} {pos pos' tpos : Pos} {ta tv : TE}
theorem pe_fld (he : PE X e ta) (hb : attributeBase e f X.env (eval e X.env) = eval e X.env) : PE X (.Attribute e f pos) (tFld X.K ta f) := by
  intro pins s σ H Q I h
  refine attr_of hb (thn (he pins s σ H _ I h) fun u s1 ⟨x, H1, I1, rx, a, C, dx, fs, v, ex, ea, c, n, l, q⟩ => ?_)
  subst ex
  obtain rfl : u = Value.ref a := rx
  exact getattr_ok I1 ea c n l fun u' s2 I2 ru => ⟨v, H1, I2, ru, q⟩
theorem ps_fld (ha : PE X o ta) (hv : PE X value tv) (hs : swapsWith value (some (.Attribute o f pos')) pos.line X.env = pure false) : PS X (.Assign [.Attribute o f pos'] value pos) (sFld X.K ta tv f) := by
  intro pins s σ H D I h
  refine plainObj_wpAny_Assign_Attribute (thn (hv pins s σ H _ I h) fun u s1 ⟨y, H1, I1, ry, q⟩ => thn (ha pins s1 σ H1 _ I1 q) fun ov s2 ⟨x, H2, I2, rx, a, C, dx, fs, ex, ea, c, n, l, q2⟩ => ?_) hs
  subst ex
  obtain rfl : ov = Value.ref a := rx
  exact setattr_ok I2 ea c n l ry fun s3 I3 => ⟨σ, _, I3, q2⟩
end
section
variable {X : Cx} {pins : List (Addr × Obj)} {σ : St} {H : Hp} {s : Shared} {A : Around} {E : Value → Shared → Prop} {Q : Value → Shared → Prop} {c : Value} {b : Bool}
end
end L2
namespace L2
open PySem PySem.Spec PyProof.Rows
structure Room (k : Nat) (A : Around) : Prop where
  hd : A.handled = none
  dp : A.depth + 3 * k + 5 < recursionLimit
  un : A.units + 16 * k + 200 < cLine
theorem Room.mono {j k : Nat} {A : Around} (r : Room k A) (h : j ≤ k) : Room j A := ⟨r.hd, by have := r.dp; omega, by have := r.un; omega⟩
theorem Room.deeper {k : Nat} {A : Around} (r : Room (k + 1) A) (env : Env) : Room k (A.deeper env) :=
  ⟨r.hd, by have := r.dp; show A.depth + 1 + 3 * k + 5 < _; omega, by have := r.un; show A.units + 3 + 16 * k + 200 < _; omega⟩
theorem make_depth {A : Around} {C : Addr} {us : List Value} {kw : List (Str × Value)} : (A.under (.builtin "type.__call__" ⟨.ref C :: us, kw⟩)).depth = A.depth + 1 := by
  first | rfl | simp [Around.under, Code.weight, Code.isCreation, Code.isGuard, Code.isCaller, Code.frames, Code.isFrame, guardIds]
theorem make_units {A : Around} {C : Addr} {us : List Value} {kw : List (Str × Value)} : (A.under (.builtin "type.__call__" ⟨.ref C :: us, kw⟩)).units = A.units + 1 := by
  first | rfl | simp [Around.under, Code.cUnits, Code.frames, Code.isFrame]
theorem Room.make {k : Nat} {A : Around} (r : Room (k + 1) A) (C : Addr) (us : List Value) (kw : List (Str × Value)) : Room k (A.under (.builtin "type.__call__" ⟨.ref C :: us, kw⟩)) :=
  ⟨r.hd, by have := r.dp; rw [make_depth]; omega, by have := r.un; rw [make_units]; omega⟩
theorem Room.depth {k : Nat} {A : Around} (r : Room k A) : A.depth < recursionLimit := by have := r.dp; omega
theorem Room.units {k : Nat} {A : Around} (r : Room k A) : A.units + 64 < cLine := by have := r.un; omega
def tNil : TA := fun _ H Q => Q [] H
def tCons (ta : TE) (tr : TA) : TA := fun σ H Q => ta σ H fun x H1 => tr σ H1 fun xs H2 => Q (x :: xs) H2
section
variable {X : Cx} {e : Expr} {es : List Expr} {te : TE} {t : TA} {pos : Pos}
theorem pa_nil : PA X [] tNil := fun _ _ _ _ H Q I h => Calls.spliced_nil ⟨[], H, I, .nil, h⟩
theorem pa_cons (ha : PE X e te) (hr : PA X es t) (hs : starEach (e :: es) X.env = (false, eval e X.env) :: starEach es X.env := by rfl) : PA X (e :: es) (tCons te t) := by
  intro pos pins s σ H Q I h
  rw [hs]
  show wpAny _ _ (spliced ((false, eval e X.env) :: backTo pos (starEach es X.env))) _ _ s
  refine Calls.spliced_cons (thn (ha pins s σ H _ I h) fun u s1 ⟨x, H1, I1, r1, q1⟩ => ?_)
  exact thn (hr pos pins s1 σ H1 _ I1 q1) fun us s2 ⟨xs, H2, I2, r2, q2⟩ => ⟨x :: xs, H2, I2, .cons r1 r2, q2⟩
def tTup (t : TA) : TE := fun σ H Q => t σ H fun xs H1 => xs.length ≤ sizeLine ∧ ∀ p, H1 p = none → Q (.ref p) (upd H1 p (.tup xs))
def tLst (t : TA) : TE := fun σ H Q => t σ H fun xs H1 => xs.length ≤ sizeLine ∧ ∀ p, H1 p = none → Q (.ref p) (upd H1 p (.lst xs))
theorem pe_tup {x1} (h : PA X es t) : PE X (.Tuple es x1 pos) (tTup t) := by
  intro pins s σ H Q I hq
  refine wpAny_Tuple_spliced (thn (h pos pins s σ H _ I hq) fun us s1 ⟨xs, H1, I1, r, z, q⟩ => ⟨by rw [← r.length]; exact z, ?_⟩)
  have hf : H1 s1.heap.objs.size = none := I1.hok.fresh (Nat.le_refl _)
  refine ⟨.ref s1.heap.objs.size, upd H1 s1.heap.objs.size (.tup xs), I1.laid (t' := s1.toks) (fun b u e => Heap.get?_push_of_some _ e) (Nat.le_refl _) ?_, rfl, q _ hf⟩
  exact ⟨z, us, r, ⟨_, Heap.get?_push_size _ rfl, rfl, _, rfl⟩⟩
theorem pe_lst (h : PA X es t) : PE X (.List es pos) (tLst t) := by
  intro pins s σ H Q I hq
  refine wpAny_List_spliced (thn (h pos pins s σ H _ I hq) fun us s1 ⟨xs, H1, I1, r, z, q⟩ => ⟨by rw [← r.length]; exact z, ?_⟩)
  have hf : H1 s1.heap.objs.size = none := I1.hok.fresh (Nat.le_refl _)
  refine ⟨.ref s1.heap.objs.size, upd H1 s1.heap.objs.size (.lst xs), I1.laid (t' := s1.toks) (fun b u e => Heap.get?_push_of_some _ e) (Nat.le_refl _) ?_, rfl, q _ hf⟩
  exact ⟨z, us, 0, r, Heap.get?_push_size _ rfl⟩
end
abbrev Sp := List V → Hp → VK → XK → Prop
abbrev CXT := List Env → Hp → Shared → XK → Value → Shared → Prop
structure Env0 (P : Program) (w : World) (K : PySem.W.Frag) (mg : Str → Option Value) (base : Heap) (A : Around) (outer : List Env) (s : Shared) (H : Hp) : Prop where
  frames : A.frames = some outer
  mod : Mod K mg base
  bs : ∀ b o, base.get? b = some o → s.heap.get? b = some o ∧ H b = none
  bsz : base.objs.size ≤ s.heap.objs.size
  funs : s.heap.FunFrames base outer
  frf : ∀ b ∈ frs outer, H b = none
  hok : HOk P w H s.heap
  bare : AllBare s.gens
def CE (outer : List Env) (P : Program) (w : World) (H : Hp) (s : Shared) (Q : VK) (u : Value) (s' : Shared) : Prop :=
  ∃ v H', s'.os = s.os ∧ AllBare s'.gens ∧ Un (frs outer) [] H H' s.heap s'.heap ∧ HOk P w H' s'.heap ∧ RelV v u ∧ Q v H'
def CR (CX : CXT) (outer : List Env) (P : Program) (w : World) (H : Hp) (s : Shared) (Q : VK) (E : XK) (r : Result) (s' : Shared) : Prop :=
  match r with
  | .ok (.ret u) => CE outer P w H s Q u s'
  | .ok _ => False
  | .error e => CX outer H s E e s'
structure FnOk (P : Program) (w : World) (K : PySem.W.Frag) (mg : Str → Option Value) (base : Heap) (CX : CXT) (k : Nat) (f : Addr) (fd : FuncData) (ps : List Str) (sp : Sp) : Prop where
  len : ∀ vs H Q E, sp vs H Q E → vs.length = ps.length
  run : ∀ (A : Around) (outer : List Env) (s : Shared) (H : Hp) (args : Args) (us : List Value) (vs : List V) (Q : VK) (E : XK), Room k A → Env0 P w K mg base A outer s H → BindsTo s fd args (ps.zip us) → Vals vs us → sp vs H Q E →
    codeAny (model P w) A (.call (.ref f) args) (CR CX outer P w H s Q E) s
theorem Env0.make {P : Program} {w : World} {K : PySem.W.Frag} {mg : Str → Option Value} {base : Heap} {A : Around} {outer : List Env} {s : Shared} {H : Hp} (e : Env0 P w K mg base A outer s H) (C : Addr) (us : List Value) (kw : List (Str × Value)) :
    Env0 P w K mg base (A.under (.builtin "type.__call__" ⟨.ref C :: us, kw⟩)) outer s H := ⟨by first | exact e.frames | (simpa [Around.under, Code.envs, Code.isFrame, pushEnvs] using e.frames), e.mod, e.bs, e.bsz, e.funs, e.frf, e.hok, e.bare⟩
section
variable {X : Cx} {pins : List (Addr × Obj)} {σ : St} {H : Hp} {s s' : Shared}
theorem Inv.env0 (I : Inv X pins σ H s) : Env0 X.prog X.w X.K X.mg X.base X.A X.stack s H :=
  ⟨I.ok.frames, I.ok.mod, I.bs, Nat.le_trans I.ok.bsz I.sz, I.stack, I.stkFree, I.hok, I.bare⟩
theorem Inv.after {Q : VK} {u : Value} (I : Inv X pins σ H s) (h : CE X.stack X.prog X.w H s Q u s') : EP X pins σ Q u s' := by
  obtain ⟨v, H', os, bare, un, hok, r, q⟩ := h
  obtain ⟨hh, g, d, t, os'⟩ := s'
  obtain rfl : os' = s.os := os
  exact ⟨v, H', I.call (h' := hh) (g' := g) (d' := d) (t' := t) (ch := []) un hok bare (fun b z => absurd z (by simp)), r, q⟩
end
def tCall (sp : Sp) (dvs : List V) (E : XK) (t : TA) : TE := fun σ H Q => t σ H fun vs H1 => sp (vs ++ dvs) H1 Q E
def tMeth (C : Addr) (m : Str) (sp : Sp) (dvs : List V) (E : XK) (ta : TE) (t : TA) : TE := fun σ H Q => ta σ H fun x H1 => ∃ a dx fs, x = .ref a ∧ H1 a = some (.ins C dx fs) ∧ fs.lookup m = none ∧
  t σ H1 fun vs H2 => sp (x :: (vs ++ dvs)) H2 Q E
def tMake (C : Addr) (sp : Sp) (dvs : List V) (E : XK) (t : TA) : TE := fun σ H Q => t σ H fun vs H1 => ∀ x dx, H1 x = none → H1 dx = none → dx ≠ x →
  sp (.ref x :: (vs ++ dvs)) (upd (upd H1 dx (.own x)) x (.ins C dx [])) (fun v H2 => v = .non ∧ Q (.ref x) H2) E
def Binds (K : PySem.W.Frag) (fd : FuncData) (ps : List Str) (ds : List Value) : Prop :=
  ∀ (s : Shared) (us : List Value), K.In s.heap → (us ++ ds).length = ps.length → BindsTo s fd ⟨us, []⟩ (ps.zip (us ++ ds))
theorem Binds.all {K : PySem.W.Frag} {fd : FuncData} {ps : List Str} (h : ∀ us : List Value, us.length = ps.length → bindArgs fd ⟨us, []⟩ = pure (ps.zip us)) : Binds K fd ps [] := fun s us _ hl => by
  rw [List.append_nil] at hl ⊢
  exact .of_eq (h us hl)
def Passes (CX : CXT) (X : Cx) (E : XK) : Prop := ∀ (pins : List (Addr × Obj)) (σ : St) (H : Hp) (s : Shared) (e : Value) (s' : Shared), Inv X pins σ H s → CX X.stack H s E e s' → X.xe e s'
section
variable {X : Cx} {CX : CXT} {k : Nat} {f C : Addr} {fd : FuncData} {ps : List Str} {sp : Sp} {dvs : List V} {ds : List Value} {E : XK} {x m : Str} {p pos apos : Pos} {e o : Expr} {es : List Expr} {ta : TE} {t : TA}
theorem run_fn {pins : List (Addr × Obj)} {σ : St} {H : Hp} {s : Shared} {Q : VK} {us : List Value} {vs : List V} (F : FnOk X.prog X.w X.K X.mg X.base CX k f fd ps sp) (hr : Room k X.A) (hb : Binds X.K fd ps ds) (hd : Vals dvs ds) (hx : Passes CX X E)
    (I : Inv X pins σ H s) (r : Vals vs us) (h : sp (vs ++ dvs) H Q E) : wpAny (model X.prog X.w) X.A (call (.ref f) us) (EP X pins σ Q) X.xe s := by
  have r2 : Vals (vs ++ dvs) (us ++ ds) := r.append hd
  have hl : (us ++ ds).length = ps.length := by rw [← r2.length]; exact F.len _ _ _ _ h
  refine wpAny_call (codeAny_mono (F.run X.A X.stack s H ⟨us, []⟩ (us ++ ds) (vs ++ dvs) Q E hr I.env0 (hb s us I.kIn hl) r2 h) fun r s' hq => ?_)
  cases r with
  | error e => exact hx pins σ H s e s' I hq
  | ok fl =>
    cases fl with
    | ret u => exact I.after hq
    | next => exact False.elim hq
    | brk => exact False.elim hq
    | cont => exact False.elim hq
theorem pe_call (F : FnOk X.prog X.w X.K X.mg X.base CX k f fd ps sp) (hr : Room k X.A) (hg : Gl X x) (hm : X.mg x = some (.ref f)) (hk : PySem.W.keepIn X.K (.ref f) = true) (hb : Binds X.K fd ps ds) (hd : Vals dvs ds) (hx : Passes CX X E)
    (ha : PA X (e :: es) t) (hdb : (x == ("__debug__" : Str)) = false := by decide) (he : starEach (e :: es) X.env = (false, eval e X.env) :: starEach es X.env := by rfl) (hpl : (backTo pos (starEach es X.env)).any (·.1) = false := by rfl) :
    PE X (.Call (.Name x p) (e :: es) [] pos) (tCall sp dvs E t) := by
  intro pins s σ H Q I h
  refine wpAny_Call_Name_kw (ld_glob I hg hm ?_ hdb)
  refine PySem.W.callWith_K (h₀ := X.base) I.ok.mod.kin hk (thn (ha pos pins s σ H _ I h) fun us s1 ⟨vs, H1, I1, r, q⟩ => ⟨I1.kIn, ?_⟩) he hpl
  exact run_fn F hr hb hd hx I1 r q
theorem pe_call0 (F : FnOk X.prog X.w X.K X.mg X.base CX k f fd ps sp) (hr : Room k X.A) (hg : Gl X x) (hm : X.mg x = some (.ref f)) (hk : PySem.W.keepIn X.K (.ref f) = true) (hb : Binds X.K fd ps ds) (hd : Vals dvs ds) (hx : Passes CX X E)
    (hdb : (x == ("__debug__" : Str)) = false := by decide) : PE X (.Call (.Name x p) [] [] pos) (tCall sp dvs E tNil) := by
  intro pins s σ H Q I h
  refine wpAny_Call_Name_kw (ld_glob I hg hm ?_ hdb)
  exact PySem.W.callWith_K0 I.kIn hk (run_fn (us := []) F hr hb hd hx I .nil h)
theorem pe_meth {pl : Sem Bool} (he : PE X o ta) (c : Cls X.K C) (hm : Meth X.K C m f) (F : FnOk X.prog X.w X.K X.mg X.base CX k f fd ps sp) (hr : Room k X.A) (hb : Binds X.K fd ps ds) (hd : Vals dvs ds) (hx : Passes CX X E) (ha : PA X (e :: es) t)
    (hst : starEach (e :: es) X.env = (false, eval e X.env) :: starEach es X.env := by rfl) (hpl : (backTo pos (starEach es X.env)).any (·.1) = false := by rfl)
    (ht : eval (.Call (.Attribute o m apos) (e :: es) [] pos) X.env = (do
      let ov ← eval o X.env
      standAt apos.atName
      let (f, first) ← holding [ov] (getMethod ov m pl)
      callWith pos f first (backTo pos (starEach (e :: es) X.env)) (backToKw pos (keywordEach [] X.env))) := by rfl) :
    PE X (.Call (.Attribute o m apos) (e :: es) [] pos) (tMeth C m sp dvs E ta t) := by
  intro pins s σ H Q I h
  refine PySem.W.methodCall_KW (pl := pl) (thn (he pins s σ H _ I h) fun u s1 ⟨x, H1, I1, rx, a, dx, fs, ex, ea, l, q⟩ => ?_) ht
  subst ex
  obtain rfl : u = Value.ref a := rx
  refine getmeth_ok I1 ea c hm l ?_
  refine PySem.W.callWith_K (first := [.ref a]) (h₀ := X.base) I.ok.mod.kin hm.kp (thn (ha pos pins s1 σ H1 _ I1 q) fun us s2 ⟨vs, H2, I2, r, q2⟩ => ⟨I2.kIn, ?_⟩) hst hpl
  exact run_fn (us := .ref a :: us) (vs := .ref a :: vs) F hr hb hd hx I2 (.cons rfl r) q2
theorem pe_meth0 {pl : Sem Bool} (he : PE X o ta) (c : Cls X.K C) (hm : Meth X.K C m f) (F : FnOk X.prog X.w X.K X.mg X.base CX k f fd ps sp) (hr : Room k X.A) (hb : Binds X.K fd ps ds) (hd : Vals dvs ds) (hx : Passes CX X E)
    (ht : eval (.Call (.Attribute o m apos) [] [] pos) X.env = (do
      let ov ← eval o X.env
      standAt apos.atName
      let (f, first) ← holding [ov] (getMethod ov m pl)
      callWith pos f first (backTo pos (starEach [] X.env)) (backToKw pos (keywordEach [] X.env))) := by rfl) :
    PE X (.Call (.Attribute o m apos) [] [] pos) (tMeth C m sp dvs E ta tNil) := by
  intro pins s σ H Q I h
  refine PySem.W.methodCall_KW (pl := pl) (thn (he pins s σ H _ I h) fun u s1 ⟨x, H1, I1, rx, a, dx, fs, ex, ea, l, q⟩ => ?_) ht
  subst ex
  obtain rfl : u = Value.ref a := rx
  refine getmeth_ok I1 ea c hm l ?_
  exact PySem.W.callWith_K0 (first := [.ref a]) I1.kIn hm.kp (run_fn (us := [.ref a]) (vs := [.ref a]) F hr hb hd hx I1 (.cons rfl .nil) q)
structure Mk (K : PySem.W.Frag) (C f : Addr) : Prop where
  makes : PySem.W.makesIn K C = true
  init : PySem.W.findIn K (.ref C) "__init__" = some (some (.ref f))
  fn : PySem.W.isFn K (.ref f) = true
  kp : PySem.W.keepIn K (.ref C) = true
theorem run_make {pins : List (Addr × Obj)} {σ : St} {H : Hp} {s : Shared} {Q : VK} {us : List Value} {vs : List V} (M : Mk X.K C f) (F : FnOk X.prog X.w X.K X.mg X.base CX k f fd ps sp) (hr : Room (k + 1) X.A) (hb : Binds X.K fd ps ds) (hd : Vals dvs ds)
    (hx : Passes CX X E) (I : Inv X pins σ H s) (r : Vals vs us)
    (h : ∀ x dx, H x = none → H dx = none → dx ≠ x → sp (.ref x :: (vs ++ dvs)) (upd (upd H dx (.own x)) x (.ins C dx [])) (fun v H2 => v = .non ∧ Q (.ref x) H2) E) :
    wpAny (model X.prog X.w) X.A (call (.ref C) us) (EP X pins σ Q) X.xe s := by
  have hq := h (s.heap.objs.size + 1) s.heap.objs.size (I.hok.fresh (Nat.le_succ _)) (I.hok.fresh (Nat.le_refl _)) (Nat.ne_of_lt (Nat.lt_succ_self _))
  have I2 := Inv.made (C := C) I
  have r2 : Vals (V.ref (s.heap.objs.size + 1) :: (vs ++ dvs)) (Value.ref (s.heap.objs.size + 1) :: (us ++ ds)) := .cons rfl (r.append hd)
  have hl : (Value.ref (s.heap.objs.size + 1) :: us ++ ds).length = ps.length := by
    have e := r2.length
    rw [F.len _ _ _ _ hq] at e
    exact e.symm
  refine wpAny_call (make_map (f := f) I.kIn M.makes M.init (beq_iff_eq.mp M.fn) (codeAny_mono (F.run _ X.stack _ _ ⟨Value.ref (s.heap.objs.size + 1) :: us, []⟩ (Value.ref (s.heap.objs.size + 1) :: (us ++ ds)) _ _ E (hr.make C us [])
    (I2.env0.make C us []) (hb _ (Value.ref (s.heap.objs.size + 1) :: us) I2.kIn hl) r2 hq) fun r s' hq' => ?_))
  cases r with
  | error e => exact hx pins σ _ _ e s' I2 hq'
  | ok fl =>
    cases fl with
    | ret u =>
      obtain ⟨v, H', I3, rv, ev, q3⟩ := I2.after hq'
      subst ev
      exact ⟨rv, ⟨V.ref (s.heap.objs.size + 1), H', I3, rfl, q3⟩⟩
    | next => exact False.elim hq'
    | brk => exact False.elim hq'
    | cont => exact False.elim hq'
theorem pe_make (M : Mk X.K C f) (F : FnOk X.prog X.w X.K X.mg X.base CX k f fd ps sp) (hr : Room (k + 1) X.A) (hg : Gl X x) (hm : X.mg x = some (.ref C)) (hb : Binds X.K fd ps ds) (hd : Vals dvs ds) (hx : Passes CX X E)
    (ha : PA X (e :: es) t) (hdb : (x == ("__debug__" : Str)) = false := by decide) (he : starEach (e :: es) X.env = (false, eval e X.env) :: starEach es X.env := by rfl) (hpl : (backTo pos (starEach es X.env)).any (·.1) = false := by rfl) :
    PE X (.Call (.Name x p) (e :: es) [] pos) (tMake C sp dvs E t) := by
  intro pins s σ H Q I h
  refine wpAny_Call_Name_kw (ld_glob I hg hm ?_ hdb)
  refine PySem.W.callWith_K (h₀ := X.base) I.ok.mod.kin M.kp (thn (ha pos pins s σ H _ I h) fun us s1 ⟨vs, H1, I1, r, q⟩ => ⟨I1.kIn, ?_⟩) he hpl
  exact run_make M F hr hb hd hx I1 r q
theorem pe_make0 (M : Mk X.K C f) (F : FnOk X.prog X.w X.K X.mg X.base CX k f fd ps sp) (hr : Room (k + 1) X.A) (hg : Gl X x) (hm : X.mg x = some (.ref C)) (hb : Binds X.K fd ps ds) (hd : Vals dvs ds) (hx : Passes CX X E)
    (hdb : (x == ("__debug__" : Str)) = false := by decide) : PE X (.Call (.Name x p) [] [] pos) (tMake C sp dvs E tNil) := by
  intro pins s σ H Q I h
  refine wpAny_Call_Name_kw (ld_glob I hg hm ?_ hdb)
  exact PySem.W.callWith_K0 I.kIn M.kp (run_make (us := []) M F hr hb hd hx I .nil h)
end
section
variable {X : Cx} {CX : CXT} {k : Nat} {f C : Addr} {fd : FuncData} {ps ks : List Str} {sp : Sp} {E : XK} {x m : Str} {p pos apos kpos : Pos} {e o : Expr} {es : List Expr} {kws : List Keyword} {te ta : TE} {t tk : TA} {nm : Option Str}
variable {g : List Value → List Value → List Value} {gV : List V → List V → List V}
end
structure FnScope (N P : List Str) (sc : Scope) : Prop where
  kind : sc.kind = .function
  co : sc.isCoroutine = false
  gen : sc.isGenerator = false
  nd : N.Nodup
  pre : N.take P.length = P
  par : ∀ x ∈ P, sc.names.lookup x = some .local ∨ sc.names.lookup x = some .cell
  nofree : ∀ y ∈ sc.names, y.2 ≠ .free
theorem bindL_out {kindOf : Str → Option NameKind} {x : Str} : ∀ {binds : List (Str × Value)} {m : Str → Option Value}, (∀ v, (x, v) ∉ binds) → bindL kindOf binds m x = m x
  | [], _, _ => rfl
  | (n, v) :: r, m, h => by
    unfold bindL
    rw [bindL_out fun w hw => h w (List.mem_cons_of_mem _ hw)]
    split
    · have : x ≠ n := by rintro rfl; exact h v List.mem_cons_self
      simp [this]
    · rfl
theorem bindC_out {kindOf : Str → Option NameKind} {x : Str} : ∀ {binds : List (Str × Value)} {m : Str → Option Value}, (∀ v, (x, v) ∉ binds) → bindC kindOf binds m x = m x
  | [], _, _ => rfl
  | (n, v) :: r, m, h => by
    unfold bindC
    rw [bindC_out fun w hw => h w (List.mem_cons_of_mem _ hw)]
    split
    · rfl
    · have : x ≠ n := by rintro rfl; exact h v List.mem_cons_self
      simp [this]
theorem bindL_get {kindOf : Str → Option NameKind} {x : Str} {v : Value} : ∀ {P : List Str} {vs : List Value} {i : Nat} {m : Str → Option Value}, P.Nodup → P[i]? = some x → vs[i]? = some v → kindOf x = some .local →
    bindL kindOf (P.zip vs) m x = some v
  | [], _, _, _, _, h, _, _ => by simp at h
  | _ :: _, [], _, _, _, _, h, _ => by simp at h
  | p :: P, w :: vs, 0, m, nd, h1, h2, hk => by
    simp at h1 h2; subst h1; subst h2
    show bindL kindOf ((p, w) :: P.zip vs) m p = _
    unfold bindL
    rw [bindL_out fun v hv => (List.nodup_cons.mp nd).1 (List.of_mem_zip hv).1, if_pos hk]
    simp
  | p :: P, w :: vs, i + 1, m, nd, h1, h2, hk => by
    show bindL kindOf ((p, w) :: P.zip vs) m x = _
    unfold bindL
    exact bindL_get (i := i) (List.nodup_cons.mp nd).2 (by simpa using h1) (by simpa using h2) hk
theorem bindC_get {kindOf : Str → Option NameKind} {x : Str} {v : Value} : ∀ {P : List Str} {vs : List Value} {i : Nat} {m : Str → Option Value}, P.Nodup → P[i]? = some x → vs[i]? = some v → kindOf x ≠ some .local →
    bindC kindOf (P.zip vs) m x = some v
  | [], _, _, _, _, h, _, _ => by simp at h
  | _ :: _, [], _, _, _, _, h, _ => by simp at h
  | p :: P, w :: vs, 0, m, nd, h1, h2, hk => by
    simp at h1 h2; subst h1; subst h2
    show bindC kindOf ((p, w) :: P.zip vs) m p = _
    unfold bindC
    rw [bindC_out fun v hv => (List.nodup_cons.mp nd).1 (List.of_mem_zip hv).1, if_neg hk]
    simp
  | p :: P, w :: vs, i + 1, m, nd, h1, h2, hk => by
    show bindC kindOf ((p, w) :: P.zip vs) m x = _
    unfold bindC
    exact bindC_get (i := i) (List.nodup_cons.mp nd).2 (by simpa using h1) (by simpa using h2) hk
def start (N : List Str) (vs : List V) : St := vs.map some ++ List.replicate (N.length - vs.length) none
def cxOf (CX : CXT) (P : Program) (w : World) (K : PySem.W.Frag) (mg : Str → Option Value) (base : Heap) (N : List Str) (qual : Str) (scope : Scope) (f : Addr) (cd : Value) (A : Around) (outer : List Env) (s : Shared) (H : Hp) (E : XK) : Cx where
  prog := P
  w := w
  K := K
  mg := mg
  base := base
  A := A.deeper (envOfC qual scope s.heap.objs.size f cd)
  N := N
  s₀ := s
  H₀ := H
  env := envOfC qual scope s.heap.objs.size f cd
  outer := outer
  stack := envOfC qual scope s.heap.objs.size f cd :: outer
  ex := []
  calm := true
  fn := fun _ => true
  pn := []
  xe := fun e s' => wpAny (model P w) (A.deeper (envOfC qual scope s.heap.objs.size f cd)) (leaving (envOfC qual scope s.heap.objs.size f cd) e) (fun _ s'' => CX outer H s E e s'') (fun e' s'' => CX outer H s E e' s'') s'
theorem cell_has {sc : Scope} {n : Nat} {x : Str} (h : sc.names.lookup x = some .cell) : ∃ c, (cellsFrom n sc.names []).lookup x = some c := by
  have q := PySem.W.cellsFrom_some sc.names n [] (.inl h)
  exact Option.isSome_iff_exists.mp q
theorem inv_start {CX : CXT} {P : Program} {w : World} {K : PySem.W.Frag} {mg : Str → Option Value} {base : Heap} {N ps : List Str} {qual : Str} {scope : Scope} {f : Addr} {cd : Value} {A : Around} {outer : List Env} {s s1 : Shared} {H : Hp} {E : XK} {us : List Value} {vs : List V}
    (S : FnScope N ps scope) (hd : A.handled = none) (e0 : Env0 P w K mg base A outer s H) (hl : vs.length = ps.length) (r : Vals vs us)
    (x : InCallC s s.heap.objs.size (bindL (envOfC qual scope s.heap.objs.size f cd).kindOf (ps.zip us) fun _ => none) (cellsFrom (s.heap.objs.size + 1) scope.names []) (bindC (envOfC qual scope s.heap.objs.size f cd).kindOf (ps.zip us) fun _ => none) s1) :
    Inv (cxOf CX P w K mg base N qual scope f cd A outer s H E) [] (start N vs) H s1 := by
  have hpl : ps.length ≤ N.length := by have := congrArg List.length S.pre; rw [List.length_take] at this; omega
  obtain ⟨h1, tk, rfl, hk⟩ := x.done
  have noA : ∀ b : Addr, b ∉ (cxOf CX P w K mg base N qual scope f cd A outer s H E).ex := fun b z => absurd (show b ∈ ([] : List Addr) from z) (by simp)
  refine ⟨⟨e0.mod, S.kind, rfl, rfl, Nat.le_refl _, fun y z c h1 h2 => ?_, fun y hy => ?_, fun y c _ h => ?_, fun _ => hd, Around.frames_deeper e0.frames, .inr ⟨rfl, rfl⟩, fun b z => absurd z (noA b), e0.bs, e0.bsz, fun b _ _ => noA b, fun b z => absurd z (noA b), e0.funs, e0.frf⟩,
    rfl, e0.bare, Un.kept hk, ⟨_, x.toInCall.ns, fun i y v h1 h2 h3 => ?_⟩, fun y c h => ⟨_, x.cell y c h⟩, e0.hok.fresh (Nat.le_refl _), fun y c h => ?_, fun p hp => absurd (show p ∈ ([] : List (Addr × Obj)) from hp) (by simp), e0.hok.kept hk, ?_⟩
  · exact name_of_addr x.apart (PySem.mem_of_lookup h1) (PySem.mem_of_lookup h2)
  · have hy : scope.names.lookup y = some .cell ∨ scope.names.lookup y = some .free := hy
    rcases hy with hy | hy
    · exact cell_has hy
    · exact absurd rfl (S.nofree _ (PySem.mem_of_lookup hy))
  · exact Nat.le_of_lt (x.above y c (PySem.mem_of_lookup h))
  · have hi : i < vs.length := by
      unfold start at h2
      by_cases hi : i < vs.length
      · exact hi
      · rw [List.getElem?_append_right (by simpa using hi)] at h2
        rw [List.getElem?_replicate] at h2
        split at h2 <;> cases h2
    have ha : vs[i]? = some v := by
      unfold start at h2
      rw [List.getElem?_append_left (by simpa using hi), List.getElem?_map] at h2
      cases e : vs[i]? with
      | none => rw [e] at h2; cases h2
      | some a => rw [e] at h2; cases h2; rfl
    obtain ⟨u, hu, rv⟩ := r.get ha
    have hp : ps[i]? = some y := by
      rw [← S.pre, List.getElem?_take_of_lt (by omega)]; exact h1
    have ndP : ps.Nodup := by rw [← S.pre]; exact S.nd.sublist (List.take_sublist _ _)
    refine ⟨u, rv, ?_⟩
    rcases S.par y (List.mem_of_getElem? hp) with k | k
    · exact .inl ⟨k, bindL_get ndP hp hu k⟩
    · obtain ⟨c, e⟩ := cell_has (n := s.heap.objs.size + 1) k
      refine .inr ⟨.inl k, c, e, ?_⟩
      have q := x.cell y c e
      rw [bindC_get ndP hp hu (by show scope.names.lookup y ≠ _; rw [k]; decide)] at q
      exact q
  · exact e0.hok.fresh (Nat.le_of_lt (x.above y c (PySem.mem_of_lookup h)))
  · unfold start
    show _ = N.length
    rw [List.length_append, List.length_map, List.length_replicate]
    omega
theorem fn_of {CX : CXT} {P : Program} {w : World} {K : PySem.W.Frag} {mg : Str → Option Value} {base : Heap} {k : Nat} {f : Addr} {name qual : Str} {params : Arguments} {body : List Stmt} {scope : Scope} {dV kV doc pm cdv ct oc : Value} {an od : Option Addr}
    {osl : Array (Option Value)} {N ps : List Str} {sp : Sp} (lk : K.lookup f = some ⟨oc, od, .func (PySem.W.fnOf name qual params body scope dV kV doc pm an cdv ct), osl⟩) (hcd : PySem.W.codeIn K cdv qual = true) (S : FnScope N ps scope)
    (len : ∀ vs H Q E, sp vs H Q E → vs.length = ps.length)
    (hbody : ∀ (A : Around) (outer : List Env) (s : Shared) (H : Hp) (vs : List V) (Q : VK) (E : XK), Room k (A.deeper (envOfC qual scope s.heap.objs.size f cdv)) → sp vs H Q E →
      ∃ t, PSs (cxOf CX P w K mg base N qual scope f cdv A outer s H E) body t ∧ t { nx := fun _ H' => Q .non H', rt := Q } (start N vs) H) :
    FnOk P w K mg base CX (k + 1) f (PySem.W.fnOf name qual params body scope dV kV doc pm an cdv ct) ps sp := by
  refine ⟨len, fun A outer s H args us vs Q E hr e0 hb r hsp => ?_⟩
  have hl := len _ _ _ _ hsp
  have KX : K.In s.heap := e0.mod.kin.keeps fun b o e => (e0.bs b o e).1
  have lim : s.heap.NoLimit := e0.mod.nolimit.keeps fun b o e => (e0.bs b o e).1
  have hkind : ∀ y ∈ ps.zip us, scope.names.lookup y.1 = some .local ∨ (scope.names.lookup y.1 = some .cell ∧ ((cellsFrom (s.heap.objs.size + 1) scope.names []).lookup y.1).isSome = true) := fun ⟨n, v⟩ hy => by
    rcases S.par n (List.of_mem_zip hy).1 with q | q
    · exact .inl q
    · exact .inr ⟨q, PySem.W.cellsFrom_some _ _ _ (.inl q)⟩
  refine codeAny_call_function hr.depth (KX _ _ lk) rfl S.co S.gen rfl (PySem.W.codeRec_of KX hcd) (hb _ _ _ _ ?_)
  refine wpAny_newFunctionEnv_cells S.kind hkind fun env he s1 x => ?_
  subst he
  refine ⟨lim.keeps x.toInCall.keep, codeAny_func ?_⟩
  obtain ⟨t, ht, hq⟩ := hbody A outer s H vs Q E (hr.deeper _) hsp
  have I : Inv (cxOf CX P w K mg base N qual scope f cdv A outer s H E) [] (start N vs) H s1 := inv_start S hr.hd e0 hl r x
  refine wpAny_mono (ht [] s1 (start N vs) H _ I hq) (fun fl s' hs => ?_) fun e s' hs => hs
  have fin : ∀ {σ' : St} {H' : Hp} {v : V} {u : Value}, Inv (cxOf CX P w K mg base N qual scope f cdv A outer s H E) [] σ' H' s' → RelV v u → Q v H' → CE outer P w H s Q u s' :=
    fun {σ' H' v u} J rv q => ⟨v, H', J.os, J.bare, J.base, J.hok, rv, q⟩
  cases fl with
  | ret u =>
    obtain ⟨v, σ', H', J, rv, q⟩ := hs
    exact fin J rv q
  | next =>
    obtain ⟨σ', H', J, q⟩ := hs
    exact fin (v := V.non) (u := Value.none) J rfl q
  | brk =>
    obtain ⟨_, _, _, q⟩ := hs
    exact False.elim q
  | cont =>
    obtain ⟨_, _, _, q⟩ := hs
    exact False.elim q
end L2
namespace L2
open PySem PySem.Spec PyProof.Rows
section
variable {X : Cx} {x : Str} {p pos : Pos} {e : Expr} {es : List Expr} {t : TA} {id T : String} {r : List V → Hp → VK → Prop}
def tCB (r : List V → Hp → VK → Prop) (t : TA) : TE := fun σ H Q => t σ H fun vs H1 => r vs H1 Q
theorem pe_callB (hc : CallR X (.builtin id) r) (hg : Gl X x) (hm : X.mg x = none) (hv : bootBuiltins x = some (.builtin id)) (ha : PA X (e :: es) t) (hn : x ≠ "__name__" := by decide) (hdb : (x == ("__debug__" : Str)) = false := by decide)
    (he : starEach (e :: es) X.env = (false, eval e X.env) :: starEach es X.env := by rfl) (hpl : (backTo pos (starEach es X.env)).any (·.1) = false := by rfl) : PE X (.Call (.Name x p) (e :: es) [] pos) (tCB r t) := by
  intro pins s σ H Q I h
  refine wpAny_Call_Name_kw (ld_blt I hg hm hv ?_ hn hdb)
  exact PyProof.Rows.callWith_builtin1 (thn (ha pos pins s σ H _ I h) fun us s1 ⟨vs, H1, I1, r1, q1⟩ => hc pins s1 σ H1 vs us Q I1 r1 q1) he hpl
theorem pe_callTy (hc : CallR X (.type T) r) (hg : Gl X x) (hm : X.mg x = none) (hv : bootBuiltins x = some (.type T)) (ha : PA X (e :: es) t) (hn : x ≠ "__name__" := by decide) (hdb : (x == ("__debug__" : Str)) = false := by decide)
    (he : starEach (e :: es) X.env = (false, eval e X.env) :: starEach es X.env := by rfl) (hpl : (backTo pos (starEach es X.env)).any (·.1) = false := by rfl) : PE X (.Call (.Name x p) (e :: es) [] pos) (tCB r t) := by
  intro pins s σ H Q I h
  refine wpAny_Call_Name_kw (ld_blt I hg hm hv ?_ hn hdb)
  exact PyProof.Rows.callWith_type1 (thn (ha pos pins s σ H _ I h) fun us s1 ⟨vs, H1, I1, r1, q1⟩ => hc pins s1 σ H1 vs us Q I1 r1 q1) he hpl
end
end L2
namespace HT
open PySem PyProof.Rows
section
open PySem.SeqAt
open PySem.AutoSeq1 (wpAny_loadPart')
open PySem.MeetsSeq PySem.MeetsSeq2 PySem.MeetsSeq3
end
section
variable {prog : Program} {w : World} {A : Around} {E : Value → Shared → Prop} {s : Shared}
def sIx (n d : Nat) : Option Int → Nat
  | none => d
  | some v => if v < 0 then (v + (n : Int)).toNat else min v.toNat n
theorem sIx_none (n d : Nat) : sIx n d none = d := rfl
theorem sIx_nat (n d k : Nat) : sIx n d (some (k : Int)) = min k n := by
  show (if (k : Int) < 0 then ((k : Int) + (n : Int)).toNat else min (k : Int).toNat n) = min k n
  rw [if_neg (by omega), Int.toNat_natCast]
end
end HT
namespace L2
open PySem PySem.Spec PyProof.Rows
abbrev TO := St → Hp → (Option Int → Hp → Prop) → Prop
def PO (X : Cx) (e : Option Expr) (t : TO) : Prop :=
  ∀ (pins : List (Addr × Obj)) (s : Shared) (σ : St) (H : Hp) (Q : Option Int → Hp → Prop), Inv X pins σ H s → t σ H Q →
    wpAny (model X.prog X.w) X.A (evalPart e X.env) (fun u s' => ∃ o H', Inv X pins σ H' s' ∧ IsPart u o ∧ Q o H') X.xe s
def tNoPart : TO := fun _ H Q => Q none H
def tPart (t : TE) : TO := fun σ H Q => t σ H fun x H1 => ∃ i, x = .int i ∧ Q (some i) H1
section
variable {X : Cx} {e : Expr} {te : TE} {lo hi : Option Expr} {tl th : TO} {pos p2 : Pos}
theorem po_none : PO X none tNoPart := by
  intro pins s σ H Q I h
  rw [evalPart_none]
  exact wpAny_pure ⟨none, H, I, .none, h⟩
theorem po_some (h : PE X e te) : PO X (some e) (tPart te) := by
  intro pins s σ H Q I hw
  rw [evalPart_some]
  refine thn (h pins s σ H _ I hw) fun u s1 ⟨x, H1, I1, r1, q1⟩ => ?_
  obtain ⟨i, rfl, q⟩ := q1
  obtain ⟨t, rfl⟩ := r1
  exact ⟨some i, H1, I1, .int i t, q⟩
def SlR (X : Cx) (r : V → Option Int → Option Int → Hp → VK → Prop) : Prop :=
  ∀ (pins : List (Addr × Obj)) (s : Shared) (σ : St) (H : Hp) (x : V) (v vl vu : Value) (lo hi : Option Int) (sl : Addr) (Q : VK), Inv X pins σ H s → RelV x v → s.heap.IsSliceOf sl vl vu .none → IsPart vl lo → IsPart vu hi → r x lo hi H Q →
    ∃ T id, typeLookup (.type T) "__getitem__" = pure (some (.builtin id)) ∧ s.TypeIs v T ∧ wpAny (model X.prog X.w) X.A (getItem v (.ref sl)) (EP X pins σ Q) X.xe s
def tSl (r : V → Option Int → Option Int → Hp → VK → Prop) (te : TE) (tl th : TO) : TE := fun σ H Q => te σ H fun x H1 => tl σ H1 fun l H2 => th σ H2 fun u H3 => r x l u H3 Q
theorem pe_slice {r : V → Option Int → Option Int → Hp → VK → Prop} (hr : SlR X r) (he : PE X e te) (hl : PO X lo tl) (hu : PO X hi th) : PE X (.Subscript e (.Slice lo hi none p2) pos) (tSl r te tl th) := by
  intro pins s σ H Q I h
  refine Subscript_ (thn (he pins s σ H _ I h) fun v s1 ⟨x, H1, I1, r1, q1⟩ => ?_)
  refine wpAny_Slice (thn (hl pins s1 σ H1 _ I1 q1) fun vl s2 ⟨l, H2, I2, pl, q2⟩ => thn (hu pins s2 σ H2 _ I2 q2) fun vu s3 ⟨u, H3, I3, pu, q3⟩ => ?_)
  rw [evalPart_none]
  refine wpAny_pure ?_
  have I4 : Inv X pins σ H3 { s3 with heap := s3.heap.push { cls := .type "slice", data := .fields #[vl, vu, .none] } } := I3.kept (t' := s3.toks) fun b ob q => Heap.get?_push_of_some _ q
  obtain ⟨T, id, hT, ht, hg⟩ := hr pins { s3 with heap := s3.heap.push { cls := .type "slice", data := .fields #[vl, vu, .none] } } σ H3 x v vl vu l u s3.heap.objs.size Q I4 r1 (Heap.IsSliceOf.new ..) pl pu q3
  show wpAny (model X.prog X.w) X.A (subscriptTail e (.Slice lo hi none p2) v (.ref s3.heap.objs.size)) (EP X pins σ Q) X.xe { s3 with heap := s3.heap.push { cls := .type "slice", data := .fields #[vl, vu, .none] } }
  exact tail_any (ops := [.ref s3.heap.objs.size, v]) ht hT hg (by with_unfolding_all rfl)
def cutV (xs : List V) (lo hi : Option Int) : List V := (xs.drop (HT.sIx xs.length 0 lo)).take (HT.sIx xs.length xs.length hi - HT.sIx xs.length 0 lo)
theorem cutV_length (xs : List V) (lo hi : Option Int) : (cutV xs lo hi).length ≤ xs.length := by
  unfold cutV
  rw [List.length_take, List.length_drop]
  omega
end
end L2
namespace L2
open PySem PySem.Spec PyProof.Rows
def ixN (n : Nat) (i : Int) : Option Nat := if 0 ≤ i then (if i < n then some i.toNat else none) else if -(n : Int) ≤ i then some (i + n).toNat else none
def atI {α : Type} (xs : List α) (i : Int) : Option α := (ixN xs.length i).bind fun j => xs[j]?
theorem ixN_seq {n : Nat} {i : Int} {j : Nat} (h : ixN n i = some j) : seqIndex? i n = some j ∧ j < n ∧ -(n : Int) ≤ i ∧ i < n := by
  unfold ixN at h
  by_cases h0 : 0 ≤ i
  · rw [if_pos h0] at h
    by_cases h1 : i < n
    · rw [if_pos h1] at h
      have e : i.toNat = j := Option.some.inj h
      exact ⟨by rw [seqIndex_of h0 h1, e], by omega, by omega, h1⟩
    · rw [if_neg h1] at h; cases h
  · rw [if_neg h0] at h
    by_cases h1 : -(n : Int) ≤ i
    · rw [if_pos h1] at h
      have e : (i + n).toNat = j := Option.some.inj h
      exact ⟨by rw [seqIndex_neg (by omega) h1, e], by omega, h1, by omega⟩
    · rw [if_neg h1] at h; cases h
theorem atI_get {α : Type} {xs : List α} {i : Int} {v : α} (h : atI xs i = some v) : ∃ j, seqIndex? i xs.length = some j ∧ xs[j]? = some v ∧ j < xs.length ∧ -(xs.length : Int) ≤ i ∧ i < xs.length := by
  unfold atI at h
  cases e : ixN xs.length i with
  | none => rw [e] at h; cases h
  | some j =>
    rw [e] at h
    obtain ⟨h1, h2, h3, h4⟩ := ixN_seq e
    exact ⟨j, h1, h, h2, h3, h4⟩
theorem atI_nat {α : Type} {xs : List α} {j : Nat} {v : α} (h : xs[j]? = some v) : atI xs (j : Int) = some v := by
  have hj : j < xs.length := (List.getElem?_eq_some_iff.mp h).1
  have e : ixN xs.length (j : Int) = some j := by
    unfold ixN
    rw [if_pos (by omega), if_pos (by omega)]; simp
  unfold atI; rw [e]; exact h
def PlainIx (b : Expr) : Prop := ∀ o i, subscripted b false o i = operate [o, i] (getItem o i)
def IxR (X : Cx) (r : R2) : Prop :=
  ∀ (value slice : Expr) (pins : List (Addr × Obj)) (s : Shared) (σ : St) (H : Hp) (x y : V) (v u : Value) (Q : VK), Inv X pins σ H s → RelV x v → RelV y u → r x y H Q →
    subscripted slice false v u = operate [v, u] (getItem v u) → wpAny (model X.prog X.w) X.A (subscriptTail value slice v u) (EP X pins σ Q) X.xe s
def MtR (X : Cx) (id : String) (r : V → List V → Hp → VK → Prop) : Prop :=
  ∀ (pins : List (Addr × Obj)) (s : Shared) (σ : St) (H : Hp) (x : V) (xs : List V) (v : Value) (us : List Value) (Q : VK), Inv X pins σ H s → RelV x v → Vals xs us → r x xs H Q →
    wpAny (model X.prog X.w) X.A (call (.builtin id) (v :: us)) (EP X pins σ Q) X.xe s
section
variable {X : Cx} {a b : Expr} {ta tb : TE} {pos : Pos}
theorem pe_ix {r : R2} (hr : IxR X r) (ha : PE X a ta) (hb : PE X b tb) (hs : PlainIx b) : PE X (.Subscript a b pos) (tOp r ta tb) := by
  intro pins s σ H Q I h
  exact Subscript_ (binT ha hb I h fun v u s2 x y H2 I2 rx ry q => hr a b pins s2 σ H2 x y v u Q I2 rx ry q (hs _ _))
def rIxL (K : PySem.W.Frag) : R2 := fun x y H Q => ∃ p xs i v, x = .ref p ∧ y = .int i ∧ SqL K H p xs ∧ atI xs i = some v ∧ Q v H
def rIxT (K : PySem.W.Frag) : R2 := fun x y H Q => ∃ p xs i v, x = .ref p ∧ y = .int i ∧ SqT K H p xs ∧ atI xs i = some v ∧ Q v H
theorem ix_list : IxR X (rIxL X.K) := by
  intro value slice pins s σ H x y v u Q I rx ry h hs
  obtain ⟨p, xs, i, z, rfl, rfl, hq, he, q⟩ := h
  cases rx
  obtain ⟨t, rfl⟩ := ry
  obtain ⟨its, r, pl, hz⟩ := I.list hq
  obtain ⟨j, h1, h2, h3, h4, h5⟩ := atI_get he
  obtain ⟨w, ew, rw'⟩ := r.get h2
  have hl := r.length
  have hn := line63
  have fin : EP X pins σ Q w s := ⟨z, H, I, rw', q⟩
  by_cases h0 : 0 ≤ i
  · have hj : i.toNat = j := by
      rw [seqIndex_of h0 h5] at h1
      exact Option.some.inj h1
    exact item_listR pl.isList h0 (by omega) (by rw [hj]; simpa using ew) fin hs
  · have hj : (i + (its.toArray.size : Int)).toNat = j := by
      rw [seqIndex_neg (by omega) h4] at h1
      rw [List.size_toArray, ← hl]
      exact Option.some.inj h1
    exact subscriptTail_builtinR (x := w) pl.isList.typeIs slot_list_getitem.lookup
      (wpAny_getItem_list_neg (Q := fun r s' => r = w ∧ EP X pins σ Q r s') pl.isList (by omega) (by rw [List.size_toArray] <;> omega) (by omega) (by rw [hj]; simpa using ew) ⟨rfl, fin⟩) hs
theorem ix_tup : IxR X (rIxT X.K) := by
  intro value slice pins s σ H x y v u Q I rx ry h hs
  obtain ⟨p, xs, i, z, rfl, rfl, hq, he, q⟩ := h
  cases rx
  obtain ⟨t, rfl⟩ := ry
  obtain ⟨its, r, pl, hz⟩ := I.tuple hq
  obtain ⟨j, h1, h2, h3, h4, h5⟩ := atI_get he
  obtain ⟨w, ew, rw'⟩ := r.get h2
  have hl := r.length
  have hn := line63
  have fin : EP X pins σ Q w s := ⟨z, H, I, rw', q⟩
  exact subscriptTail_builtinR (x := w) pl.typeIs slot_tuple_getitem.lookup
    (getItem_tuple (j := j) (Q := fun r s' => r = w ∧ EP X pins σ Q r s') pl (by omega) (by omega) (by rw [List.size_toArray, ← hl]; exact h1) (by simpa using ew) ⟨rfl, fin⟩) hs
theorem mapSeq_set (its : List Value) (n j : Nat) (u : Value) : Obj.mapSeq (·.setIfInBounds j u) { cls := .type "list", data := .seq its.toArray n } = { cls := .type "list", data := .seq (its.set j u).toArray n } := by
  simp [Obj.mapSeq]
theorem Inv.lst {pins : List (Addr × Obj)} {σ : St} {H : Hp} {s : Shared} {p : Addr} {xs : List V} (I : Inv X pins σ H s) (h : H p = some (.lst xs)) :
    ∃ (its : List Value) (n : Nat), Vals xs its ∧ s.heap.get? p = some { cls := .type "list", data := .seq its.toArray n } ∧ xs.length ≤ sizeLine := by
  obtain ⟨z, its, n, r, e⟩ := I.hok p _ h
  exact ⟨its, n, r, e, z⟩
theorem Inv.lstUpd {pins : List (Addr × Obj)} {σ : St} {H : Hp} {s : Shared} {p : Addr} {xs ys : List V} {its its' : List Value} {n n' : Nat} {f : Obj → Obj} (I : Inv X pins σ H s) (h : H p = some (.lst xs))
    (ho : s.heap.get? p = some { cls := .type "list", data := .seq its.toArray n }) (hf : f { cls := .type "list", data := .seq its.toArray n } = { cls := .type "list", data := .seq its'.toArray n' }) (r : Vals ys its') (hz : ys.length ≤ sizeLine) (t : Nat) :
    Inv X pins σ (upd H p (.lst ys)) { s with heap := s.heap.update p f, toks := t } := by
  have e : (s.heap.update p f).get? p = some { cls := .type "list", data := .seq its'.toArray n' } := by
    rw [Heap.get?_update_self f ho (by rw [hf] <;> rfl), hf]
  refine I.write (x := p) (e := p) (by rw [h]; trivial) (.inl rfl) (fun b u hb q => (Heap.get?_update_other _ _ (Ne.symm hb)).trans q) ⟨_, e⟩ ?_
  exact ⟨hz, its', n', r, e⟩
def rSetL : V → V → V → Hp → (Hp → Prop) → Prop := fun o i v H Q => ∃ p xs k j, o = .ref p ∧ i = .int k ∧ H p = some (.lst xs) ∧ ixN xs.length k = some j ∧ Q (upd H p (.lst (xs.set j v)))
theorem set_list : PSet X rSetL := by
  intro pins s σ H o i v ov iv u Q I ro ri rv h
  obtain ⟨p, xs, k, j, rfl, rfl, hp, hj, q⟩ := h
  cases ro
  obtain ⟨t, rfl⟩ := ri
  obtain ⟨its, n, r, ho, hz⟩ := I.lst hp
  obtain ⟨h1, h2, h3, h4⟩ := ixN_seq hj
  have hl := r.length
  have hn := line63
  have I' : Inv X pins σ (upd H p (.lst (xs.set j v))) { s with heap := s.heap.update p (Obj.mapSeq (·.setIfInBounds j u)) } :=
    I.lstUpd hp ho (mapSeq_set its n j u) (r.set rv j) (by rw [List.length_set]; exact hz) s.toks
  by_cases h0 : 0 ≤ k
  · have hk : k.toNat = j := by
      rw [seqIndex_of h0 h4] at h1
      exact Option.some.inj h1
    exact PySem.W.ki_setAt ho h0 (by omega) (by rw [List.size_toArray, ← hl]; exact h4) (by rw [hk]; exact ⟨_, I', q⟩)
  · have hk : (k + (its.toArray.size : Int)).toNat = j := by
      rw [seqIndex_neg (by omega) h3] at h1
      rw [List.size_toArray, ← hl]
      exact Option.some.inj h1
    exact PySem.W.ki_setBack ho (by omega) (by rw [List.size_toArray, ← hl]; exact h3) (by omega) (by rw [hk]; exact ⟨_, I', q⟩)
theorem slice_bounds (lo hi : Option Int) (n : Nat) : (sliceBounds lo hi none n).1 = ((HT.sIx n 0 lo : Nat) : Int) ∧ (sliceBounds lo hi none n).2.1 = ((HT.sIx n n hi : Nat) : Int) ∧ (sliceBounds lo hi none n).2.2 = 1 := by
  refine ⟨?_, ?_, rfl⟩
  · cases lo with
    | none => simp [sliceBounds, HT.sIx]
    | some i =>
      simp only [sliceBounds, HT.sIx, Option.getD_none, show (1 : Int) > 0 by decide, if_true]
      by_cases h : i < 0
      · simp only [h, if_true] <;> omega
      · simp only [h, if_false] <;> omega
  · cases hi with
    | none => simp [sliceBounds, HT.sIx]
    | some i =>
      simp only [sliceBounds, HT.sIx, Option.getD_none, show (1 : Int) > 0 by decide, if_true]
      by_cases h : i < 0
      · simp only [h, if_true] <;> omega
      · simp only [h, if_false] <;> omega
theorem slicePick_cut (its : List Value) (lo hi : Option Int) : slicePick its.toArray lo hi none = ((its.drop (HT.sIx its.length 0 lo)).take (HT.sIx its.length its.length hi - HT.sIx its.length 0 lo)).toArray := by
  obtain ⟨h1, h2, h3⟩ := slice_bounds lo hi its.toArray.size
  unfold slicePick
  rw [h1, h2, h3]
  simp only [sliceRange_one, pick_run, List.size_toArray] <;> rfl
def rSlL (K : PySem.W.Frag) : V → Option Int → Option Int → Hp → VK → Prop := fun x lo hi H Q => ∃ a xs, x = .ref a ∧ SqL K H a xs ∧ ∀ p, H p = none → Q (.ref p) (upd H p (.lst (cutV xs lo hi)))
theorem sl_list : SlR X (rSlL X.K) := by
  intro pins s σ H x v vl vu lo hi sl Q I rx hs pl pu h
  obtain ⟨a, xs, rfl, hx, q⟩ := h
  cases rx
  obtain ⟨its, r, ht, hz⟩ := I.list hx
  have hlen := r.length
  refine ⟨"list", _, slot_list_getitem.lookup, ht.isList.typeIs, ?_⟩
  refine wpAny_getItem_list_slice ht.isList hs pl pu .none (by simp) ?_ (by rw [List.size_toArray] <;> omega)
  rw [slicePick_cut, ← hlen]
  refine ⟨.ref s.heap.objs.size, _, I.laid (t' := s.toks) (o := .lst (cutV xs lo hi)) (fun b ob q => Heap.get?_push_of_some _ q) (Nat.le_refl _) ?_, rfl, q _ (I.hok.fresh (Nat.le_refl _))⟩
  exact ⟨Nat.le_trans (cutV_length xs lo hi) hz, _, 0, (r.drop (HT.sIx xs.length 0 lo)).take (HT.sIx xs.length xs.length hi - HT.sIx xs.length 0 lo), Heap.get?_push_size _ rfl⟩
theorem call_len_seq : CallR X (.builtin "len") (fun xs H Q => ∃ p ys, xs = [.ref p] ∧ (SqL X.K H p ys ∨ SqT X.K H p ys) ∧ Q (.int ys.length) H) := by
  intro pins s σ H xs us Q I r h
  obtain ⟨p, ys, rfl, hq, q⟩ := h
  obtain ⟨u, rfl, rx⟩ := vals1 r
  cases rx
  have hn := line63
  rcases hq with hq | hq
  · obtain ⟨its, r', pl, hz⟩ := I.list hq
    have hlen := r'.length
    exact Calls.call_len_list pl.isList (by simp only [List.size_toArray] <;> omega) ⟨.int ys.length, H, I.tok _, ⟨s.toks + 1, by rw [List.size_toArray, hlen]⟩, q⟩
  · obtain ⟨its, r', pl, hz⟩ := I.tuple hq
    have hlen := r'.length
    exact len_tuple pl (by simp only [List.size_toArray] <;> omega) ⟨.int ys.length, H, I.tok _, ⟨s.toks + 1, by rw [List.size_toArray, hlen]⟩, q⟩
theorem call_list_of : CallR X (.type "list") (fun xs H Q => ∃ p ys, xs = [.ref p] ∧ (SqL X.K H p ys ∨ SqT X.K H p ys) ∧ ∀ l, H l = none → Q (.ref l) (upd H l (.lst ys))) := by
  intro pins s σ H xs us Q I r h
  obtain ⟨p, ys, rfl, hq, q⟩ := h
  obtain ⟨u, rfl, rx⟩ := vals1 r
  cases rx
  have fin : ∀ (its : List Value), Vals ys its → ys.length ≤ sizeLine → ∀ (h' : Heap) (c' : Nat), (∀ b o', s.heap.get? b = some o' → h'.get? b = some o') →
      h'.get? s.heap.objs.size = some { cls := .type "list", dict := none, data := .seq its.toArray c', slots := #[] } → EP X pins σ Q (.ref s.heap.objs.size) { s with heap := h' } := fun its r' hz h' c' kp e =>
    ⟨.ref s.heap.objs.size, _, I.laid (t' := s.toks) kp (Nat.le_refl _) (show ObjOk X.prog X.w _ h' _ (.lst ys) from ⟨hz, its, c', r', e⟩), rfl, q _ (I.hok.fresh (Nat.le_refl _))⟩
  rcases hq with hq | hq
  · obtain ⟨its, r', pl, hz⟩ := I.list hq
    have hlen := r'.length
    obtain ⟨o, ho, hc, n, hd⟩ := pl.isList
    exact call_list_seq p (.inl rfl) ho hc hd (fun h' c' kp e => fin its r' hz h' c' kp e) (by simp only [List.size_toArray] <;> omega)
  · obtain ⟨its, r', pl, hz⟩ := I.tuple hq
    have hlen := r'.length
    obtain ⟨o, ho, hc, n, hd⟩ := pl
    exact call_list_seq p (.inr rfl) ho hc hd (fun h' c' kp e => fin its r' hz h' c' kp e) (by simp only [List.size_toArray] <;> omega)
def tyV (K : PySem.W.Frag) (T : String) (x : V) (H : Hp) : Prop := match x with
  | .str _ => T = "str"
  | .int _ => T = "int"
  | .ref p => (T = "list" ∧ ∃ xs, SqL K H p xs) ∨ (T = "tuple" ∧ ∃ o, K.lookup p = some o ∧ o.cls = .type "tuple" ∧ o.dict = none) ∨
      (T = "dict" ∧ ((∃ kvs, H p = some (.dK kvs)) ∨ ∃ kvs, H p = some (.dT kvs))) ∨ (T = "set" ∧ ∃ S n, H p = some (.set S n))
  | _ => False
theorem tyV_is {pins : List (Addr × Obj)} {σ : St} {H : Hp} {s : Shared} {T : String} {x : V} {v : Value} (I : Inv X pins σ H s) (r : RelV x v) (ty : tyV X.K T x H) :
    s.TypeIs v T ∧ ∀ a, v = .ref a → ∃ ob, s.heap.get? a = some ob ∧ ob.dict = none := by
  cases x with
  | str z =>
    obtain ⟨t, rfl⟩ := r
    cases (show T = "str" from ty)
    exact ⟨typeIs_str s z t, fun _ e => nomatch e⟩
  | int i =>
    obtain ⟨t, rfl⟩ := r
    cases (show T = "int" from ty)
    exact ⟨typeIs_int s i t, fun _ e => nomatch e⟩
  | ref p =>
    cases r
    rcases ty with ⟨rfl, xs, hq⟩ | ⟨rfl, o, hk, hc, hd⟩ | ⟨rfl, hk⟩ | ⟨rfl, S, n, hk⟩
    · obtain ⟨its, _, pl, _⟩ := I.list hq
      refine ⟨pl.isList.typeIs, fun a e => ?_⟩
      cases e
      obtain ⟨o, n, e, c, hd, _⟩ := pl
      exact ⟨o, e, hd⟩
    · refine ⟨⟨o, I.kIn p o hk, hc⟩, fun a e => ?_⟩
      cases e
      exact ⟨o, I.kIn _ o hk, hd⟩
    · have z : ∃ o, s.heap.get? p = some o ∧ o.ExactDict := by
        rcases hk with ⟨kvs, hk⟩ | ⟨kvs, hk⟩
        · obtain ⟨_, _, _, _, o, _, _, e, ex, _⟩ := I.hok p _ hk
          exact ⟨o, e, ex⟩
        · obtain ⟨_, _, _, _, o, _, _, e, ex, _⟩ := I.hok p _ hk
          exact ⟨o, e, ex⟩
      obtain ⟨o, e, ex⟩ := z
      refine ⟨⟨o, e, ex.1⟩, fun a e2 => ?_⟩
      cases e2
      exact ⟨o, e, ex.2.1⟩
    · obtain ⟨o, _, _, _, e, ex, _⟩ := I.hok p _ hk
      refine ⟨⟨o, e, ex.1⟩, fun a e2 => ?_⟩
      cases e2
      exact ⟨o, e, ex.2.1⟩
  | _ => exact False.elim ty
def tBM (K : PySem.W.Frag) (T : String) (r : V → List V → Hp → VK → Prop) (to : TE) (t : TA) : TE := fun σ H Q => to σ H fun x H1 => tyV K T x H1 ∧ t σ H1 fun xs H2 => r x xs H2 Q
variable {o e : Expr} {es : List Expr} {to : TE} {t : TA} {name : Str} {apos cpos : Pos} {T id : String} {r : V → List V → Hp → VK → Prop}
theorem pe_bm (pa : PlainAttrs T) (slot : Slot T name id) (hty : typeOf (.builtin id) = pure (.type "method_descriptor")) (hm : MtR X id r) (ho : PE X o to) (ha : PA X (e :: es) t)
    (hbase : attributeBase o name X.env (eval o X.env) = eval o X.env := by rfl)
    (hfew : ((backTo cpos (starEach (e :: es) X.env)).all (fun x => !x.1) && (backToKw cpos (keywordEach [] X.env)).all (fun x => x.1.isSome)
      && decide ((e :: es).length + ([] : List Keyword).length + (if ([] : List Keyword).isEmpty then 0 else 1) < 30)) = true := by rfl)
    (hline : (apos.endLine == cpos.line) = true := by rfl) (hs : starEach (e :: es) X.env = (false, eval e X.env) :: starEach es X.env := by rfl) (hplain : (backTo cpos (starEach es X.env)).any (·.1) = false := by rfl) :
    PE X (.Call (.Attribute o name apos) (e :: es) [] cpos) (tBM X.K T r to t) := by
  intro pins s σ H Q I h
  refine wpAny_Call_method_late hbase hfew hline rfl (thn (ho pins s σ H _ I h) fun v s1 ⟨x, H1, I1, r1, ty, q1⟩ => ?_)
  obtain ⟨h1, h2⟩ := tyV_is I1 r1 ty
  refine ⟨T, id, pa, slot, hty, h1, h2, ?_⟩
  have hA := ha cpos pins s1 σ H1 _ I1 q1
  rw [hs] at hA ⊢
  refine Calls.callWith_builtin (by show (false || (backTo cpos (starEach es X.env)).any (·.1)) = false; rw [hplain] <;> rfl) (Calls.evalArgs_plain ?_)
  exact thn hA fun us s2 ⟨vs, H2, I2, r2, q2⟩ => hm pins s2 σ H2 x vs v us Q I2 r1 r2 q2
/- xs.append(e), list.index on a module's tuple .. are MtR facts of 06m -/
end
end L2
namespace L2
open PySem PySem.Spec PyProof.Rows
def MtM (X : Cx) (id : String) (r : V → List V → Hp → VK → Prop) : Prop :=
  ∀ (pins : List (Addr × Obj)) (s : Shared) (σ : St) (H : Hp) (x : V) (xs : List V) (v : Value) (us : List Value) (Q : VK), Inv X pins σ H s → RelV x v → Vals xs us → r x xs H Q →
    wpAny (model X.prog X.w) X.A (call (.builtin id) (v :: us)) (EP X pins σ Q) X.xe s
theorem Vals.one : ∀ {x : V} {us : List Value}, Vals [x] us → ∃ u, us = [u] ∧ RelV x u
  | _, _, .cons r .nil => ⟨_, rfl, r⟩
theorem Vals.eraseIdx : ∀ {xs : List V} {us : List Value} (i : Nat), Vals xs us → Vals (xs.eraseIdx i) (us.eraseIdx i)
  | _, _, _, .nil => .nil
  | _, _, 0, .cons _ t => t
  | _, _, i + 1, .cons r t => .cons r (Vals.eraseIdx i t)
theorem len_erase {α : Type} : ∀ (l : List α) (i : Nat), (l.eraseIdx i).length ≤ l.length
  | [], _ => Nat.le_refl _
  | _ :: _, 0 => Nat.le_succ _
  | _ :: r, i + 1 => Nat.succ_le_succ (len_erase r i)
section
variable {X : Cx} {pins : List (Addr × Obj)} {σ : St} {H : Hp} {s : Shared} {l b : Addr} {xs ys zs : List V}
theorem Inv.lset {its its' : List Value} {n : Nat} {f : Array Value → Array Value} {t' : Nat} (I : Inv X pins σ H s) (hH : H l = some (.lst xs))
    (e : s.heap.get? l = some { cls := .type "list", data := .seq its.toArray n }) (hf : f its.toArray = its'.toArray) (hv : Vals ys its') (hz : ys.length ≤ sizeLine) :
    Inv X pins σ (upd H l (.lst ys)) { s with heap := s.heap.update l (Obj.mapSeq f), toks := t' } := by
  have q := PySem.IsL.update e f
  rw [hf] at q
  refine I.write (x := l) (e := l) (by rw [hH]; exact trivial) (.inl rfl) (fun b' u hb hu => (Heap.get?_update_other s.heap (Obj.mapSeq f) (Ne.symm hb)).trans hu) ⟨_, q⟩ ?_
  exact ⟨hz, its', _, hv, q⟩
theorem Inv.lnew {its : List Value} {t' : Nat} (I : Inv X pins σ H s) (hv : Vals ys its) (hz : ys.length ≤ sizeLine) :
    Inv X pins σ (upd H s.heap.objs.size (.lst ys)) { s with heap := s.heap.push { cls := .type "list", data := .seq its.toArray }, toks := t' } :=
  I.laid (fun _ _ q => Heap.get?_push_of_some _ q) (Nat.le_refl _) ⟨hz, its, 0, hv, Heap.get?_push_size _ rfl⟩
theorem Inv.fresh (I : Inv X pins σ H s) : H s.heap.objs.size = none := I.hok.fresh (Nat.le_refl _)
theorem Inv.lstM (I : Inv X pins σ H s) (hH : H l = some (.lst xs)) : xs.length ≤ sizeLine ∧ ∃ (its : List Value) (n : Nat), Vals xs its ∧ xs.length = its.length ∧ s.heap.get? l = some { cls := .type "list", data := .seq its.toArray n } := by
  obtain ⟨z, its, n, r, e⟩ := I.hok l _ hH
  exact ⟨z, its, n, r, r.length, e⟩
theorem notLongL {n : Nat} (h : n ≤ sizeLine) : Builtin.List.listTooLong n = false := by
  unfold Builtin.List.listTooLong
  exact decide_eq_false (by omega)
end
section
variable {X : Cx}
def rAppend : V → List V → Hp → VK → Prop := fun x vs H Q => ∃ l xs y, x = .ref l ∧ vs = [y] ∧ H l = some (.lst xs) ∧ xs.length < sizeLine ∧ Q .non (upd H l (.lst (xs ++ [y])))
theorem mt_append : MtM X "list.append" rAppend := by
  intro pins s σ H x vs v us Q I rx rv h
  obtain ⟨l, xs, y, rfl, rfl, hH, hz, q⟩ := h
  cases rx
  obtain ⟨u, rfl, ru⟩ := rv.one
  obtain ⟨z, its, n, r, hl, e⟩ := I.lstM hH
  refine call_meets F.slot_list_append ⟨_, e, rfl⟩ F.entry_list_append (F.args_list_append_2 _ _) (PySem.list_append l its.toArray n u (by rw [List.size_toArray]; omega)) ⟨e, ?_⟩
  refine ⟨.non, _, I.lset (its' := its ++ [u]) hH e (by simp) (r.append (.cons ru .nil)) ?_, rfl, q⟩
  rw [List.length_append, List.length_singleton]
  omega
def rPopAt : V → List V → Hp → VK → Prop := fun x vs H Q => ∃ l xs i k y, x = .ref l ∧ vs = [.int i] ∧ H l = some (.lst xs) ∧ -(2 ^ 63) ≤ i ∧ i < 2 ^ 63 ∧ seqIndex? i xs.length = some k ∧ xs[k]? = some y ∧ Q y (upd H l (.lst (xs.eraseIdx k)))
theorem mt_popAt : MtM X "list.pop" rPopAt := by
  intro pins s σ H x vs v us Q I rx rv h
  obtain ⟨l, xs, i, k, y, rfl, rfl, hH, h1, h2, hk, hy, q⟩ := h
  cases rx
  obtain ⟨u, rfl, ru⟩ := rv.one
  obtain ⟨t, rfl⟩ := ru
  obtain ⟨z, its, n, r, hl, e⟩ := I.lstM hH
  obtain ⟨w, hw, rw'⟩ := r.get hy
  refine call_meets F.slot_list_pop ⟨_, e, rfl⟩ F.entry_list_pop (F.args_list_pop_2 _ _)
    (MeetsSeq.list_pop_at l its.toArray n i t k w (fitsIndex_both h1 h2) (by rw [List.size_toArray, ← hl]; exact hk) (by rw [← Array.getElem?_toList]; exact hw) (by rw [List.size_toArray]; omega)) ⟨e, ?_⟩
  refine ⟨y, _, I.lset (its' := its.eraseIdx k) hH e ?_ (r.eraseIdx k) ?_, rw', q⟩
  · show its.toArray.eraseIdxIfInBounds k = (its.eraseIdx k).toArray
    rw [List.eraseIdxIfInBounds_toArray]
  · have := len_erase xs k
    omega
end
section
variable {prog : Program} {w : World} {A : Around} {E : Value → Shared → Prop} {s : Shared}
end
section
variable {X : Cx}
end
end L2
namespace L2
open PySem PySem.Spec PyProof.Rows
theorem Vals.bls : ∀ {bs : List Bool} {us : List Value}, Vals (bs.map V.bl) us → us = bs.map Value.bool
  | [], us, h => by
    rw [List.map_nil] at h
    cases h
    rfl
  | b :: bs, us, h => by
    rw [List.map_cons] at h
    cases h with
    | cons r t =>
      cases r
      rw [Vals.bls t, List.map_cons]
theorem Vals.ref1 {a : Addr} {us : List Value} (r : Vals [V.ref a] us) : us = [Value.ref a] := by
  cases r with
  | cons r t =>
    cases t
    cases r
    rfl
section
variable {prog : Program} {w : World} {A : Around} {E : Value → Shared → Prop} {s : Shared} {l : Addr} {its : List Value} {ns : List Int} {Q : Value → Shared → Prop}
end
section
variable {X : Cx}
end
section
variable {X : Cx}
end
section
variable {X : Cx}
end
theorem iter_any {prog : Program} {w : World} {A : Around} {E : Value → Shared → Prop} {s : Shared} {l : Addr} {items : Array Value} {Q : Value → Shared → Prop} (hl : s.heap.IsList l items)
    (h : ∀ s₂ : Shared, s₂ = { s with heap := s.heap.push { cls := .type "list_iterator", data := .fields #[.ref l, .int 0 0] } } →
      (s₂.heap.IsListIter s.heap.objs.size l 0 ∧ s₂.heap.IsList l items) → l ≠ s.heap.objs.size → Q (.ref s.heap.objs.size) s₂) : wpAny (model prog w) A (pyIter (.ref l)) Q E s := by
  have hlt : l < s.heap.objs.size := by obtain ⟨_, e, _⟩ := hl; exact Heap.lt_size e
  exact wpAny_pyIter_list hl (h _ rfl ⟨⟨_, Heap.get?_push_size _ rfl, rfl, rfl⟩, hl.push _⟩ (Nat.ne_of_lt hlt))
theorem truth_bools {prog : Program} {w : World} {A : Around} {bs : List Bool} {its : List Value} (e : its = bs.map Value.bool) :
    TruthOf prog w A (fun i v => its.toArray[i]? = some v) (fun i => bs.getD i false) := fun i v s Q E hv hq => by
  have hv' : its[i]? = some v := by simpa using hv
  rw [e, List.getElem?_map] at hv'
  obtain ⟨b, hb, rfl⟩ := Option.map_eq_some_iff.mp hv'
  have hg : bs.getD i false = b := by rw [List.getD_eq_getElem?_getD, hb] <;> rfl
  have hq' : Q (bs.getD i false) s := hq
  rw [hg] at hq'
  exact wpAny_truthy_bool hq'
theorem any_range : ∀ bs : List Bool, (List.range bs.length).any (fun i => bs.getD i false) = bs.any id
  | [] => rfl
  | b :: bs => by
    rw [List.length_cons, List.range_succ_eq_map, List.any_cons, List.any_map, List.any_cons, ← any_range bs]
    all_goals rfl
section
variable {X : Cx}
def rAny (K : PySem.W.Frag) : List V → Hp → VK → Prop := fun vs H Q => ∃ (a : Addr) (bs : List Bool), vs = [V.ref a] ∧ SqL K H a (bs.map V.bl) ∧ Q (.bl (bs.any id)) H
theorem cr_any (hc : X.calm = true) : CallR X (.builtin "any") (rAny X.K) := by
  intro pins s σ H vs us Q I r h
  obtain ⟨a, bs, rfl, hs, q⟩ := h
  obtain ⟨its, rv, hl, _⟩ := I.list hs
  rw [Vals.ref1 r]
  have hb := rv.bls
  refine call_any_walk (iter_any hl.isList fun s₂ e2 st hne => ?_)
  subst e2
  refine ⟨_, _, _, _, _, _, _, rfl, Walks.list (A := X.A.in1) (I.ok.hd hc) _ a hne its.toArray, st, truth_bools hb, fun h' tk hk => ?_⟩
  refine ⟨.bl _, H, I.kept fun b o eo => hk b o (fun hmem => ?_) (Heap.get?_push_of_some _ eo), ?_, q⟩
  · rcases List.mem_cons.mp hmem with e1 | hmem
    · exact absurd (e1 ▸ Heap.lt_size eo) (Nat.lt_irrefl _)
    · cases hmem
  · show Value.bool _ = Value.bool _
    rw [← any_range, hb, List.size_toArray, List.length_map]
end
section
variable {X : Cx} {pins : List (Addr × Obj)} {σ : St} {H : Hp} {s : Shared}
end
section
variable {X : Cx}
end
end L2
namespace L2
open PySem PySem.Spec PyProof.Rows
abbrev CellAt (h : Heap) (c : Addr) (v : Option Value) : Prop := h.IsCell c v
def relS (scope sc : Scope) : Scope :=
  { scope with names := scope.names.map fun (n, k) => if (k == .free && sc.kind == .function && sc.names.lookup n == some .cell) then (n, .cell) else (n, k) }
def cloFrom (cells : List (Str × Addr)) : List (Str × NameKind) → List (Str × Addr) → List (Str × Addr)
  | [], acc => acc
  | (n, k) :: r, acc => if k == .free then cloFrom cells r ((n, (cells.lookup n).getD 0) :: acc) else cloFrom cells r acc
theorem closure_loop (env : Env) (f : Str × NameKind → List (Str × Addr) → Sem (ForInStep (List (Str × Addr))))
    (hf : ∀ n k c, f (n, k) c = if k == .free then (do let a ← cellOf env n; pure (.yield ((n, a) :: c))) else pure (.yield c)) :
    ∀ (names : List (Str × NameKind)) (acc : List (Str × Addr)), (∀ y ∈ names, y.2 = .free → ∃ c, env.cells.lookup y.1 = some c) → forIn names acc f = pure (cloFrom env.cells names acc)
  | [], acc, _ => by rw [List.forIn_nil]; rfl
  | (n, k) :: r, acc, h => by
    rw [List.forIn_cons, hf]
    have ih := fun acc => closure_loop env f hf r acc fun y hy => h y (List.mem_cons_of_mem _ hy)
    unfold cloFrom
    by_cases hk : (k == NameKind.free) = true
    · rw [if_pos hk, if_pos hk]
      obtain ⟨c, hc⟩ := h (n, k) List.mem_cons_self (by simpa using hk)
      have e : cellOf env n = pure c := by unfold cellOf; rw [hc]
      rw [e]
      have e2 : (env.cells.lookup n).getD 0 = c := by rw [hc]; rfl
      rw [e2]
      exact ih _
    · rw [if_neg hk, if_neg hk]
      exact ih _
theorem closure_ok {scope : Scope} {env : Env} (h : ∀ y ∈ scope.names, y.2 = .free → ∃ c, env.cells.lookup y.1 = some c) : closureFor scope env = pure (cloFrom env.cells scope.names []) := by
  simp only [closureFor]
  rw [closure_loop env _ (fun n k c => rfl) scope.names [] h]
  rfl
theorem mem_lookup {α : Type} : ∀ {l : List (Str × α)} {n : Str} {c : α}, (n, c) ∈ l → ∃ c', l.lookup n = some c'
  | (k, v) :: r, n, c, h => by
    rw [List.lookup_cons]
    cases hb : n == k with
    | true => exact ⟨_, rfl⟩
    | false =>
      rcases List.mem_cons.mp h with e | h
      · cases e; simp at hb
      · exact mem_lookup h
theorem cloFrom_mem {cells : List (Str × Addr)} : ∀ {names : List (Str × NameKind)} {acc : List (Str × Addr)} {n : Str} {c : Addr}, (n, c) ∈ cloFrom cells names acc → (n, c) ∈ acc ∨ ((n, .free) ∈ names ∧ c = (cells.lookup n).getD 0)
  | [], _, _, _, h => .inl h
  | (m, k) :: r, acc, n, c, h => by
    unfold cloFrom at h
    split at h
    · rename_i hk
      have hk : k = .free := by simpa using hk
      rcases cloFrom_mem h with h | ⟨h1, h2⟩
      · rcases List.mem_cons.mp h with e | h
        · cases e; exact .inr ⟨hk ▸ List.mem_cons_self, rfl⟩
        · exact .inl h
      · exact .inr ⟨List.mem_cons_of_mem _ h1, h2⟩
    · rcases cloFrom_mem h with h | ⟨h1, h2⟩
      · exact .inl h
      · exact .inr ⟨List.mem_cons_of_mem _ h1, h2⟩
theorem cloFrom_acc {cells : List (Str × Addr)} : ∀ {names : List (Str × NameKind)} {acc : List (Str × Addr)} {p : Str × Addr}, p ∈ acc → p ∈ cloFrom cells names acc
  | [], _, _, h => h
  | (m, k) :: r, acc, p, h => by
    unfold cloFrom
    split
    · exact cloFrom_acc (List.mem_cons_of_mem _ h)
    · exact cloFrom_acc h
theorem cloFrom_has {cells : List (Str × Addr)} : ∀ {names : List (Str × NameKind)} {acc : List (Str × Addr)} {n : Str}, (n, .free) ∈ names → (n, (cells.lookup n).getD 0) ∈ cloFrom cells names acc
  | (m, k) :: r, acc, n, h => by
    unfold cloFrom
    rcases List.mem_cons.mp h with e | h
    · cases e
      exact cloFrom_acc List.mem_cons_self
    · split
      · exact cloFrom_has h
      · exact cloFrom_has h
theorem cells_mem : ∀ {names : List (Str × NameKind)} {h : Heap} {acc : List (Str × Addr)} {x : Str} {c : Addr}, (x, c) ∈ cellsFrom h.objs.size names acc →
    (x, c) ∈ acc ∨ ((x, .cell) ∈ names ∧ h.objs.size ≤ c ∧ CellAt (pushCells h names) c none)
  | [], _, _, _, _, h => .inl h
  | (n, k) :: r, h, acc, x, c, hm => by
    unfold cellsFrom at hm
    unfold pushCells
    split at hm
    · rename_i hk
      rw [if_pos hk]
      have hk : k = .cell := by simpa using hk
      rw [← Heap.size_push h { cls := .type "cell", data := .cell none }] at hm
      rcases cells_mem hm with hm | ⟨h1, h2, h3⟩
      · rcases List.mem_cons.mp hm with e | hm
        · cases e
          exact .inr ⟨hk ▸ List.mem_cons_self, Nat.le_refl _, _, pushCells_keeps r _ _ _ (Heap.get?_push_size _ rfl), rfl⟩
        · exact .inl hm
      · rw [Heap.size_push] at h2
        exact .inr ⟨List.mem_cons_of_mem _ h1, Nat.le_of_succ_le h2, h3⟩
    · rename_i hk
      rw [if_neg hk]
      rcases cells_mem hm with hm | ⟨h1, h2, h3⟩
      · exact .inl hm
      · exact .inr ⟨List.mem_cons_of_mem _ h1, h2, h3⟩
theorem cells_acc : ∀ {names : List (Str × NameKind)} {n : Nat} {acc : List (Str × Addr)} {p : Str × Addr}, p ∈ acc → p ∈ cellsFrom n names acc
  | [], _, _, _, h => h
  | (m, k) :: r, n, acc, p, h => by
    unfold cellsFrom
    split
    · exact cells_acc (List.mem_cons_of_mem _ h)
    · exact cells_acc h
theorem cells_has : ∀ {names : List (Str × NameKind)} {n : Nat} {acc : List (Str × Addr)} {x : Str}, (x, .cell) ∈ names → ∃ c, (x, c) ∈ cellsFrom n names acc
  | (m, k) :: r, n, acc, x, h => by
    unfold cellsFrom
    rcases List.mem_cons.mp h with e | h
    · cases e
      exact ⟨n, cells_acc List.mem_cons_self⟩
    · split
      · exact cells_has h
      · exact cells_has h
theorem cells_inj : ∀ {names : List (Str × NameKind)} {h : Heap} {acc : List (Str × Addr)} {x y : Str} {c : Addr}, (∀ p ∈ acc, p.2 < h.objs.size) → (∀ x y c, (x, c) ∈ acc → (y, c) ∈ acc → x = y) →
    (x, c) ∈ cellsFrom h.objs.size names acc → (y, c) ∈ cellsFrom h.objs.size names acc → x = y
  | [], _, _, _, _, _, _, hi, h1, h2 => hi _ _ _ h1 h2
  | (n, k) :: r, h, acc, x, y, c, hl, hi, h1, h2 => by
    unfold cellsFrom at h1 h2
    split at h1
    · rename_i hk
      rw [if_pos hk] at h2
      rw [← Heap.size_push h { cls := .type "cell", data := .cell none }] at h1 h2
      refine cells_inj (h := h.push _) (fun p hp => ?_) (fun x y c a b => ?_) h1 h2
      · rw [Heap.size_push]
        rcases List.mem_cons.mp hp with rfl | hp
        · exact Nat.lt_succ_self _
        · exact Nat.lt_succ_of_lt (hl p hp)
      · rcases List.mem_cons.mp a with e | a <;> rcases List.mem_cons.mp b with e' | b
        · cases e; cases e'; rfl
        · cases e; exact absurd (hl _ b) (Nat.lt_irrefl _)
        · cases e'; exact absurd (hl _ a) (Nat.lt_irrefl _)
        · exact hi _ _ _ a b
    · rename_i hk
      rw [if_neg hk] at h2
      exact cells_inj hl hi h1 h2
theorem newEnv_comp {M : Model} {A : Around} {E : Value → Shared → Prop} {s : Shared} {scope : Scope} {globals : Addr} {closure : List (Str × Addr)} {qual : Str} {func : Option Addr} {code : Value} {around : Env} {builtins : Addr} {Q : Env → Shared → Prop}
    (h : Q (newEnv scope s.heap.objs.size globals (cellsFrom (s.heap.objs.size + 1) scope.names closure) qual func code (some around) builtins)
      { s with heap := pushCells (s.heap.push { cls := .type "dict", data := .dict #[] }) scope.names }) :
    wpAny M A (newFunctionEnv scope globals closure [] qual func code (some around) builtins) Q E s := by
  simp only [newFunctionEnv, Option.isSome_some, if_true]
  refine wpAny_bind (wpAny_alloc ?_)
  refine wpAny_bind (wpAny_layCells _ (fun n k c => rfl) scope.names closure _ _ ?_)
  rw [show ({ s with heap := s.heap.push { cls := .type "dict", data := .dict #[] } } : Shared).heap.objs.size = s.heap.objs.size + 1 from Heap.size_push ..]
  rw [List.forIn_nil]
  exact wpAny_bind (wpAny_pure (wpAny_pure h))
theorem lookup_relS {sc : Scope} : ∀ {names : List (Str × NameKind)} {x : Str} {k : NameKind},
    (names.map fun (n, k) => if (k == NameKind.free && sc.kind == .function && sc.names.lookup n == some .cell) then (n, NameKind.cell) else (n, k)).lookup x = some k →
    ∃ k', names.lookup x = some k' ∧ (k = k' ∨ (k' = .free ∧ k = .cell))
  | [], _, _, h => by simp at h
  | (n, k₀) :: r, x, k, h => by
    have ih := @lookup_relS sc r x k
    have h' : List.lookup x ((if (k₀ == NameKind.free && sc.kind == .function && sc.names.lookup n == some .cell) = true then (n, NameKind.cell) else (n, k₀)) :: (r.map _)) = some k := h
    cases hx : x == n with
    | true =>
      simp only [List.lookup_cons, hx]
      by_cases hc : (k₀ == NameKind.free && sc.kind == .function && sc.names.lookup n == some .cell) = true
      · rw [if_pos hc] at h'
        simp only [List.lookup_cons, hx] at h'
        cases h'
        simp only [Bool.and_eq_true, beq_iff_eq] at hc
        exact ⟨k₀, rfl, .inr ⟨hc.1.1, rfl⟩⟩
      · rw [if_neg hc] at h'
        simp only [List.lookup_cons, hx] at h'
        cases h'
        exact ⟨_, rfl, .inl rfl⟩
    | false =>
      simp only [List.lookup_cons, hx]
      by_cases hc : (k₀ == NameKind.free && sc.kind == .function && sc.names.lookup n == some .cell) = true
      · rw [if_pos hc] at h'
        simp only [List.lookup_cons, hx] at h'
        exact ih h'
      · rw [if_neg hc] at h'
        simp only [List.lookup_cons, hx] at h'
        exact ih h'
structure BlkOk (N : List Str) (sc scope : Scope) (own : List (Str × Nat)) : Prop where
  kind : scope.kind = .function
  uniq : ∀ y ∈ scope.names, scope.names.lookup y.1 = some y.2
  ix : ∀ p ∈ own, N[p.2]? = some p.1
  free : ∀ y ∈ scope.names, y.2 = .free → sc.names.lookup y.1 = some .cell ∨ sc.names.lookup y.1 = some .free
  own : ∀ y ∈ scope.names, y.2 = .local ∨ y.2 = .cell → y.1 ∈ own.map (·.1) ∨ y.1 ∉ N
def wipe (σ : St) : List Nat → St
  | [] => σ
  | v :: vs => (wipe σ vs).set v none
theorem wipe_length (σ : St) : ∀ vs : List Nat, (wipe σ vs).length = σ.length
  | [] => rfl
  | v :: vs => by unfold wipe; rw [List.length_set, wipe_length σ vs]
theorem wipe_some {σ : St} {i : Nat} {x : V} : ∀ {vs : List Nat}, (wipe σ vs)[i]? = some (some x) → σ[i]? = some (some x) ∧ i ∉ vs
  | [], h => ⟨h, by simp⟩
  | v :: vs, h => by
    unfold wipe at h
    by_cases hi : v = i
    · subst hi
      by_cases hv : v < (wipe σ vs).length
      · rw [List.getElem?_set_self hv] at h; cases h
      · rw [List.getElem?_eq_none (by simpa using hv)] at h; cases h
    · rw [List.getElem?_set_ne hi] at h
      obtain ⟨h1, h2⟩ := wipe_some h
      exact ⟨h1, by simp only [List.mem_cons, not_or]; exact ⟨fun e => hi e.symm, h2⟩⟩
abbrev Cx.blk (X : Cx) (s : Shared) (H : Hp) (scope : Scope) (cenv : Env) (fp : List Addr) : Cx := { X with s₀ := s, H₀ := H, env := cenv, outer := X.stack, ex := fp, fn := fun x => scope.names.lookup x == some .cell, pn := [], xe := fun _ _ => False }
section
variable {X : Cx} {pins : List (Addr × Obj)} {σ : St} {H : Hp} {s : Shared}
theorem block_start {scope : Scope} {own : List (Str × Nat)} {fp : List Addr} (I : Inv X pins σ H s) (ok : BlkOk X.N X.env.scope scope own) (hN : X.N.Nodup) (hfp : ∀ b ∈ fp, FpOk X pins H b ∧ b < s.heap.objs.size) :
    Inv (X.blk s H scope (compEnvC scope (cellsFrom (s.heap.objs.size + 1) scope.names (cloFrom X.env.cells scope.names [])) s.heap.objs.size X.env) fp) [] (wipe σ (own.map (·.2))) H { s with heap := pushCells (s.heap.push { cls := .type "dict", data := .dict #[] }) scope.names } := by
  have hfree : ∀ y ∈ scope.names, y.2 = .free → ∃ c, X.env.cells.lookup y.1 = some c := fun y hy e => by
    rcases ok.free y hy e with k | k
    · exact I.ok.has _ (.inl k)
    · exact I.ok.has _ (.inr k)
  generalize hcenv : compEnvC scope (cellsFrom (s.heap.objs.size + 1) scope.names (cloFrom X.env.cells scope.names [])) s.heap.objs.size X.env = cenv
  have kp : ∀ b o, s.heap.get? b = some o → (pushCells (s.heap.push { cls := .type "dict", data := .dict #[] }) scope.names).get? b = some o := fun b o e => pushCells_keeps _ _ _ _ (Heap.get?_push_of_some _ e)
  have hL : cenv.locals = s.heap.objs.size := by rw [← hcenv]; rfl
  have hcl : cenv.cells = cellsFrom (s.heap.objs.size + 1) scope.names (cloFrom X.env.cells scope.names []) := by rw [← hcenv]; rfl
  have hsc : cenv.scope = relS scope X.env.scope := by rw [← hcenv]; rfl
  rw [← Heap.size_push s.heap { cls := .type "dict", data := .dict #[] }] at hcl
  have cm : ∀ {y c}, (y, c) ∈ cloFrom X.env.cells scope.names [] → X.env.cells.lookup y = some c ∧ c < s.heap.objs.size := fun {y c} hm => by
    rcases cloFrom_mem hm with hm | ⟨h1, rfl⟩
    · cases hm
    · obtain ⟨c, hc⟩ := hfree _ h1 rfl
      rw [hc]
      obtain ⟨w, z⟩ := I.cell _ _ hc
      exact ⟨rfl, z.lt⟩
  have mem : ∀ {y c}, cenv.cells.lookup y = some c → (X.env.cells.lookup y = some c ∧ c < s.heap.objs.size) ∨ (s.heap.objs.size + 1 ≤ c ∧ CellAt (pushCells (s.heap.push { cls := .type "dict", data := .dict #[] }) scope.names) c none) := fun {y c} e => by
    rw [hcl] at e
    rcases cells_mem (PySem.mem_of_lookup e) with hm | ⟨_, h2, h3⟩
    · exact .inl (cm hm)
    · rw [Heap.size_push] at h2; exact .inr ⟨h2, h3⟩
  have look : ∀ {y}, scope.names.lookup y = some .free → ∃ c, cenv.cells.lookup y = some c ∧ X.env.cells.lookup y = some c := fun {y} hl => by
    have hy : (y, NameKind.free) ∈ scope.names := PySem.mem_of_lookup hl
    obtain ⟨c', e'⟩ := mem_lookup (cells_acc (names := scope.names) (n := (s.heap.push { cls := .type "dict", data := .dict #[] }).objs.size) (cloFrom_has (cells := X.env.cells) (acc := []) hy))
    rw [← hcl] at e'
    refine ⟨c', e', ?_⟩
    rw [hcl] at e'
    rcases cells_mem (PySem.mem_of_lookup e') with hm | ⟨h1, _, _⟩
    · exact (cm hm).1
    · have := ok.uniq _ h1
      rw [hl] at this; cases this
  have okB : (X.blk s H scope cenv fp).Ok := by
    refine ⟨I.ok.mod, by show cenv.scope.kind = _; rw [hsc]; exact ok.kind, by show cenv.globals = _; rw [← hcenv]; exact I.ok.glob, by show cenv.builtins = _; rw [← hcenv]; exact I.ok.blt, by show s.heap.objs.size ≤ cenv.locals; rw [hL]; exact Nat.le_refl _,
      fun y z c e1 e2 => ?_, fun y hy => ?_, fun y c z e => ?_, I.ok.hd, I.ok.frames, .inl rfl, fun b hb => ⟨?_, fun y c e z => ?_⟩, I.bs, Nat.le_trans I.ok.bsz I.sz, fun b o e hb => ?_, fun b hb z => ?_, I.stack, I.stkFree⟩
    · have e1 : cenv.cells.lookup y = some c := e1
      have e2 : cenv.cells.lookup z = some c := e2
      rw [hcl] at e1 e2
      refine cells_inj (fun p hp => ?_) (fun y z c a b => I.ok.inj y z c (cm a).1 (cm b).1) (PySem.mem_of_lookup e1) (PySem.mem_of_lookup e2)
      rw [Heap.size_push]
      exact Nat.lt_succ_of_lt (cm (y := p.1) (c := p.2) hp).2
    · show ∃ c, cenv.cells.lookup y = some c
      have key : ∀ k, cenv.kindOf y = some k → (k = .cell ∨ k = .free) → ∃ c, cenv.cells.lookup y = some c := fun k hk hk' => by
        unfold Env.kindOf at hk
        rw [hsc] at hk
        obtain ⟨k', e, r⟩ := lookup_relS hk
        have : k' = .cell ∨ k' = .free := by
          rcases r with rfl | ⟨rfl, _⟩
          · exact hk'
          · exact .inr rfl
        rcases this with rfl | rfl
        · obtain ⟨c, hm⟩ := cells_has (n := (s.heap.push { cls := .type "dict", data := .dict #[] }).objs.size) (acc := cloFrom X.env.cells scope.names []) (PySem.mem_of_lookup e)
          obtain ⟨c', e'⟩ := mem_lookup hm
          exact ⟨c', by rw [hcl]; exact e'⟩
        · obtain ⟨c, h1, _⟩ := look e
          exact ⟨c, h1⟩
      rcases hy with hy | hy
      · exact key _ hy (.inl rfl)
      · exact key _ hy (.inr rfl)
    · have z : (scope.names.lookup y == some NameKind.cell) = true := z
      have z : scope.names.lookup y = some .cell := by simpa using z
      have e : cenv.cells.lookup y = some c := e
      rw [hcl] at e
      rcases cells_mem (PySem.mem_of_lookup e) with hm | ⟨_, h2, _⟩
      · rcases cloFrom_mem hm with hm | ⟨h1, _⟩
        · cases hm
        · have q := ok.uniq _ h1
          rw [z] at q; cases q
      · rw [Heap.size_push] at h2
        exact Nat.le_of_succ_le h2
    · show b ≠ cenv.locals
      rw [hL]; exact Nat.ne_of_lt (hfp b hb).2
    · have e : cenv.cells.lookup y = some c := e
      rcases mem e with ⟨h1, _⟩ | ⟨h1, _⟩
      · exact (hfp b hb).1.2.2.2.2.1 y c h1 z
      · have h2 : s.heap.objs.size + 1 ≤ b := by rw [← z]; exact h1
        exact absurd (Nat.lt_of_lt_of_le (hfp b hb).2 (Nat.le_of_succ_le h2)) (Nat.lt_irrefl _)
    · rcases (hfp b hb).1.2.2.2.1 with z | z
      · exact I.ok.noex b o e z
      · exact absurd (Nat.lt_of_lt_of_le (Heap.lt_size e) (Nat.le_trans I.ok.bsz z)) (Nat.lt_irrefl _)
    · rcases List.mem_cons.mp (I.stkSub b z) with z | z
      · exact (hfp b hb).1.2.1 z
      · exact (hfp b hb).1.2.2.1 z
  refine ⟨okB, rfl, I.bare, Un.kept kp, ⟨fun _ => none, ?_, fun i y av e1 e2 e3 => ?_⟩, fun y c e => ?_, ?_, fun y c e => ?_, fun p hp => ?_, I.hok.kept kp, by rw [wipe_length]; exact I.len⟩
  · show Heap.Ns _ cenv.locals _
    rw [hL]
    exact Heap.Ns.keeps (Heap.Ns.new ..) fun b o e => pushCells_keeps _ _ _ _ e
  · obtain ⟨e2, hne⟩ := wipe_some e2
    have hfr : scope.names.lookup y = some .free ∧ (cenv.kindOf y = some .cell ∨ cenv.kindOf y = some .free) := by
      have key : ∀ k, cenv.scope.names.lookup y = some k → k = .local ∨ k = .cell ∨ k = .free → scope.names.lookup y = some .free ∧ (cenv.kindOf y = some .cell ∨ cenv.kindOf y = some .free) := fun k hk hk' => by
        have hk0 := hk
        rw [hsc] at hk
        obtain ⟨k', e, r⟩ := lookup_relS hk
        have no : ¬ (k' = .local ∨ k' = .cell) := fun hh => by
          rcases ok.own _ (PySem.mem_of_lookup e) hh with e' | e'
          · obtain ⟨p, hp, hpy⟩ := List.mem_map.mp e'
            have e3 := ok.ix p hp
            have : p.1 = y := hpy
            rw [this] at e3
            exact hne (List.mem_map.mpr ⟨p, hp, nodup_ix hN e3 e1⟩)
          · exact e' (List.mem_of_getElem? e1)
        rcases r with rfl | ⟨rfl, rfl⟩
        · rcases hk' with rfl | rfl | rfl
          · exact absurd (.inl rfl) no
          · exact absurd (.inr rfl) no
          · exact ⟨e, .inr hk0⟩
        · exact ⟨e, .inl hk0⟩
      have e3 : Vis cenv.scope y := e3
      rcases e3 with e3 | e3 | e3
      · exact key _ e3 (.inl rfl)
      · exact key _ e3 (.inr (.inl rfl))
      · exact key _ e3 (.inr (.inr rfl))
    obtain ⟨m, hn, hl⟩ := I.loc
    have hvis : Vis X.env.scope y := (ok.free _ (PySem.mem_of_lookup hfr.1) rfl).elim (fun k => .inr (.inl k)) (fun k => .inr (.inr k))
    obtain ⟨w, r, q⟩ := hl i y av e1 e2 hvis
    refine ⟨w, r, .inr ⟨hfr.2, ?_⟩⟩
    obtain ⟨c, h1, h2⟩ := look hfr.1
    rcases q with ⟨k, _⟩ | ⟨_, c', e', z⟩
    · have k : X.env.scope.names.lookup y = some .local := k
      rcases ok.free _ (PySem.mem_of_lookup hfr.1) rfl with k' | k' <;> rw [show X.env.scope.names.lookup y = _ from k'] at k <;> cases k
    · rw [h2] at e'; cases e'
      exact ⟨c, h1, z.keeps kp⟩
  · have e : cenv.cells.lookup y = some c := e
    rcases mem e with ⟨h1, _⟩ | ⟨_, z⟩
    · obtain ⟨w, z⟩ := I.cell y c h1
      exact ⟨w, z.keeps kp⟩
    · exact ⟨_, z⟩
  · show H cenv.locals = none
    rw [hL]; exact I.hok.fresh (Nat.le_refl _)
  · have e : cenv.cells.lookup y = some c := e
    rcases mem e with ⟨h1, _⟩ | ⟨h1, _⟩
    · exact I.freeC y c h1
    · exact I.hok.fresh (Nat.le_of_succ_le h1)
  · exact absurd (show p ∈ ([] : List (Addr × Obj)) ++ [] from hp) (by simp)
theorem app_ok {E : Value → Shared → Prop} {D : Addr} {xs : List V} {y : V} {v : Value} {Q : Value → Shared → Prop} (I : Inv X pins σ H s) (hD : H D = some (.lst xs)) (hz : xs.length < sizeLine) (r : RelV y v)
    (h : ∀ s', Inv X pins σ (upd H D (.lst (xs ++ [y]))) s' → Q .none s') : wpAny (model X.prog X.w) X.A (call (.builtin "list.append") [.ref D, v]) Q E s := by
  obtain ⟨hz', its, n, ri, e⟩ := I.hok D _ hD
  have hl := ri.length
  refine append_at (hsz := by rw [List.size_toArray]; omega) e fun h' sb ho' => ?_
  refine h { s with heap := h' } (I.write (t' := s.toks) (by rw [hD]; trivial) (.inl rfl) (fun b u hb q => (sb.2 b hb).trans q) ⟨_, ho'⟩ ⟨by rw [List.length_append]; exact hz, its ++ [v], n + 1, ri.append (.cons r .nil), ?_⟩)
  rw [ho']
  simp
def PTs (X : Cx) (ifs : List Expr) (t : TT) : Prop :=
  ∀ (pins : List (Addr × Obj)) (s : Shared) (σ : St) (H : Hp) (Q : Bool → Hp → Prop), Inv X pins σ H s → t σ H Q →
    wpAny (model X.prog X.w) X.A (forIn ifs true fun c r => if r = true then do let ok ← isTrue c X.env (eval c X.env); pure (ForInStep.yield ok) else pure (ForInStep.yield r)) (TP X pins σ Q) X.xe s
def tYes : TT := fun _ H Q => Q true H
theorem pts_nil : PTs X [] tYes := fun _ _ _ H _ I h => wpAny_tests_nil ⟨H, I, h⟩
end
theorem thnF {α : Type} {t : Sem α} {Q Q' : α → Shared → Prop} {M : Model} {A : Around} {E : Value → Shared → Prop} {s : Shared} (h : wpAny M A t Q (fun _ _ => False) s) (hQ : ∀ a s, Q a s → Q' a s) : wpAny M A t Q' E s := wpAny_mono h hQ fun _ _ z => False.elim z
theorem compLoop_any {prog : Program} {w : World} {A : Around} {R : Result → Shared → Prop} {s : Shared} {elt target iter : Expr} {ifs : List Expr} {scope : Scope} {pos : Pos} {it acc : Value} {env : Env} (I : Nat → Shared → Prop)
    (turn : ∀ n s, I n s → wpAny (model prog w) A (pyNext it) (fun r s₁ => match r with
      | none => R (.ok .next) s₁
      | some v => wpAny (model prog w) A (letOwnedTupleGo target it v) (fun _ s₁' => wpAny (model prog w) A (assign target env v) (fun _ s₂ =>
          wpAny (model prog w) A (forIn ifs true fun c r => if r = true then do let ok ← isTrue c env (eval c env); pure (ForInStep.yield ok) else pure (ForInStep.yield r)) (fun ok s₃ =>
            if ok = true then wpAny (model prog w) A (eval elt env) (fun x s₄ =>
              wpAny (model prog w) A (call (.builtin "list.append") [acc, x]) (fun _ s₅ => ∃ m, m < n ∧ I m s₅) (notedBy (model prog w) A env fun e s' => R (.error e) s') s₄) (notedBy (model prog w) A env fun e s' => R (.error e) s') s₃
            else ∃ m, m < n ∧ I m s₃) (notedBy (model prog w) A env fun e s' => R (.error e) s') s₂) (notedBy (model prog w) A env fun e s' => R (.error e) s') s₁') (notedBy (model prog w) A env fun e s' => R (.error e) s') s₁) (notedBy (model prog w) A env fun e s' => R (.error e) s') s)
    (n : Nat) (h : I n s) :
    codeAny (model prog w) A (.compLoop (.ListComp elt [⟨target, iter, ifs, 0⟩] scope pos) 0 it acc env) R s := by
  refine codeAny_loop rfl I (fun n s hI => ?_) n h
  show wpAny _ A ((compTurn (.ListComp elt [⟨target, iter, ifs, 0⟩] scope pos) 0 it acc env).onRaise (fun x => do noteFrame x env; theTreesLotGoes x)) _ _ s
  refine wpAny_noted ?_
  rw [compTurn_list]
  refine wpAny_bind (wpAny_standAt (wpAny_bind (wpAny_mono (turn n s hI) (fun r s₁ h₁ => ?_) fun _ _ h' => h')))
  cases r with
  | none => exact wpAny_pure h₁
  | some v =>
    refine wpAny_bind (wpAny_mono h₁ (fun _ s₁' h₁' => ?_) fun _ _ h' => h')
    refine wpAny_bind (wpAny_mono h₁' (fun _ s₂ h₂ => wpAny_bind (wpAny_mono h₂ (fun ok s₃ h₃ => ?_) fun _ _ h' => h')) fun _ _ h' => h')
    cases ok with
    | false => exact wpAny_pure ⟨rfl, h₃⟩
    | true =>
      exact wpAny_bind (wpAny_bind (wpAny_mono h₃ (fun x s₄ h₄ => wpAny_bind (wpAny_mono h₄ (fun _ s₅ h₅ => wpAny_pure (wpAny_pure ⟨rfl, h₅⟩)) fun _ _ h' => h')) fun _ _ h' => h'))
section
variable {X : Cx}
def tLc (wi : TI) (g : TG) (tt : TT) (te : TE) (vs : List Nat) : TE := fun σ H Q => wi σ H fun J H1 => ∀ D, H1 D = none → ∃ W : Nat → Nat → Hp → Prop, (∃ m, W 0 m (upd H1 D (.lst []))) ∧ ∀ i m H, W i m H →
  (J.stop i H ∧ Q (.ref D) H) ∨ (J.go i H ∧ ∃ Nx : Hp → Prop, (∀ H', Nx H' → ∃ m', m' < m ∧ W (i + 1) m' H') ∧ ∀ x H', J.yld i H x H' → g x (wipe σ vs) H' fun σ2 H2 => wipe σ2 vs = wipe σ vs ∧ tt σ2 H2 fun b H3 =>
    if b = true then te σ2 H3 fun y H4 => ∃ acc, H4 D = some (.lst acc) ∧ acc.length < sizeLine ∧ Nx (upd H4 D (.lst (acc ++ [y]))) else Nx H3)
theorem lc_core {pins : List (Addr × Obj)} {s : Shared} {σ : St} {H : Hp} {Q : VK} {elt tg iter : Expr} {ifs : List Expr} {scope : Scope} {own : List (Str × Nat)} {pos pos' : Pos} {wi : TI} {g : TG} {tt : TT} {te : TE} {use : Option (Value → Sem Unit)} {Qf : Value → Shared → Prop}
    (hc : X.calm = true) (hN : X.N.Nodup) (I : Inv X pins σ H s) (hi : PI X tg iter wi) (ok : BlkOk X.N X.env.scope scope own)
    (hg : ∀ (s : Shared) (H : Hp) (C : Addr) (cl : List (Str × Addr)) (fp : List Addr), PG (X.blk s H scope (compEnvC scope cl C X.env) fp) tg g) (ht : ∀ (s : Shared) (H : Hp) (C : Addr) (cl : List (Str × Addr)) (fp : List Addr), PTs (X.blk s H scope (compEnvC scope cl C X.env) fp) ifs tt)
    (he : ∀ (s : Shared) (H : Hp) (C : Addr) (cl : List (Str × Addr)) (fp : List Addr), PE (X.blk s H scope (compEnvC scope cl C X.env) fp) elt te) (hs : ∀ x, foldedSetIterable iter X.env x = pure x)
    (h : tLc wi g tt te (own.map (·.2)) σ H Q)
    (hRR : ∀ D C s' m H', Inv X pins σ H' s' → Q (.ref D) H' → s'.heap.Ns C m → FpOk X pins H' C → compPost (model X.prog X.w) X.A X.xe use Qf (.ref D) C (.ok .next) s') :
    wpAny (model X.prog X.w) X.A (comprehension (.ListComp elt [⟨tg, iter, ifs, 0⟩] scope pos) scope X.env pos' (newList []) false (eval iter X.env) use) Qf X.xe s := by
  have hfree : ∀ y ∈ scope.names, y.2 = .free → ∃ c, X.env.cells.lookup y.1 = some c := fun y hy e => by
    rcases ok.free y hy e with k | k
    · exact I.ok.has _ (.inl k)
    · exact I.ok.has _ (.inr k)
  refine wpAny_comprehension_free (use := use) rfl hs (closure_ok hfree) ok.kind (fun y hy e => by rw [ok.uniq y hy, e])
    (thn (hi pins s σ H _ I h) fun xv s1 hx => thn hx fun itv s2 h2 => ?_)
  obtain ⟨it, fp, tn, J, H2, e, I2, T, st2, f2, q⟩ := h2
  subst e
  refine wpAny_newObj_type (newEnv_comp ?_) (by show 0 ≤ sizeLine; decide)
  generalize hD : s2.heap.objs.size = D
  have hDn : H2 D = none := I2.hok.fresh (Nat.le_of_eq hD)
  obtain ⟨W, ⟨m0, w0⟩, turn⟩ := q D hDn
  -- the new list
  generalize hs3 : ({ s2 with heap := s2.heap.push { cls := .type "list", data := .seq ([] : List Value).toArray } } : Shared) = s3
  have I3 : Inv X pins σ (upd H2 D (.lst [])) s3 := by
    rw [← hs3]
    refine I2.laid (t' := s2.toks) (fun b o e => Heap.get?_push_of_some _ e) (Nat.le_of_eq hD) ⟨Nat.zero_le _, [], 0, .nil, ?_⟩
    rw [← hD]
    exact Heap.get?_push_size _ rfl
  have h3 : s3.heap = s2.heap.push { cls := .type "list", data := .seq ([] : List Value).toArray } := by rw [← hs3]
  have sz : ∀ b ∈ fp, b < s2.heap.objs.size := fun b hb => by
    obtain ⟨o, e, _⟩ := T.obj _ _ st2 b hb
    exact Heap.lt_size e
  have f3 : ∀ b ∈ fp, FpOk X pins (upd H2 D (.lst [])) b ∧ b < s3.heap.objs.size := fun b hb => by
    have hlt := sz b hb
    refine ⟨⟨?_, (f2 b hb).2⟩, by rw [h3, Heap.size_push]; exact Nat.lt_succ_of_lt hlt⟩
    rw [upd_ne (by rw [← hD]; exact Nat.ne_of_lt hlt)]
    exact (f2 b hb).1
  have st3 : tn 0 s3.heap := T.keep _ _ _ st2 fun b _ o e => by rw [h3]; exact Heap.get?_push_of_some _ e
  have I4 := block_start I3 ok hN f3
  have pg := hg s3 (upd H2 D (.lst [])) s3.heap.objs.size (cellsFrom (s3.heap.objs.size + 1) scope.names (cloFrom X.env.cells scope.names [])) fp
  have pt := ht s3 (upd H2 D (.lst [])) s3.heap.objs.size (cellsFrom (s3.heap.objs.size + 1) scope.names (cloFrom X.env.cells scope.names [])) fp
  have pe := he s3 (upd H2 D (.lst [])) s3.heap.objs.size (cellsFrom (s3.heap.objs.size + 1) scope.names (cloFrom X.env.cells scope.names [])) fp
  show codeAny _ _ (.compStart (.ListComp elt [⟨tg, iter, ifs, 0⟩] scope pos) 0 (.ref it) (.ref D) (compEnvC scope (cellsFrom (s3.heap.objs.size + 1) scope.names (cloFrom X.env.cells scope.names [])) s3.heap.objs.size X.env)) (compPost (model X.prog X.w) X.A X.xe use Qf (.ref D) s3.heap.objs.size) { s3 with heap := pushCells (s3.heap.push { cls := .type "dict", data := .dict #[] }) scope.names }
  have nfp : ∀ b ∈ fp, (upd H2 D (.lst [])) b = none := fun b hb => (f3 b hb).1.1
  generalize hce : compEnvC scope (cellsFrom (s3.heap.objs.size + 1) scope.names (cloFrom X.env.cells scope.names [])) s3.heap.objs.size X.env = ce at I4 pg pt pe ⊢
  have cL : ce.locals = s3.heap.objs.size := by subst hce; rfl
  generalize hH3 : upd H2 D (.lst []) = H3 at I3 I4 pg pt pe w0 nfp f3
  generalize hs4 : ({ s3 with heap := pushCells (s3.heap.push { cls := .type "dict", data := .dict #[] }) scope.names } : Shared) = s4 at I4 ⊢
  have st4 : tn 0 s4.heap := T.keep _ _ _ st3 fun b _ o e => by rw [← hs4]; exact pushCells_keeps _ _ _ _ (Heap.get?_push_of_some _ e)
  have stat : ∀ {σ' : St} {H' : Hp} {s' : Shared}, Inv (X.blk s3 H3 scope ce fp) [] σ' H' s' → (∀ b ∈ fp, H' b = none) → ∀ b ∈ fp, FpOk (X.blk s3 H3 scope ce fp) [] H' b := fun {σ' H' s'} I' hn b hb =>
    ⟨hn b hb, (I'.ok.exf b hb).1, I'.ok.exfs b hb, .inl hb, fun x c e => (I'.ok.exf b hb).2 x c e, fun p hp => absurd (show p ∈ ([] : List (Addr × Obj)) ++ [] from hp) (by simp)⟩
  have loop : codeAny (model X.prog X.w) X.A (.compLoop (.ListComp elt [⟨tg, iter, ifs, 0⟩] scope pos) 0 (.ref it) (.ref D) ce) (compPost (model X.prog X.w) X.A X.xe use Qf (.ref D) s3.heap.objs.size) s4 := by
    refine compLoop_any (fun n s' => ∃ i H', Inv (X.blk s3 H3 scope ce fp) [] (wipe σ (own.map (·.2))) H' s' ∧ tn i s'.heap ∧ (∀ b ∈ fp, H' b = none) ∧ W i n H') ?_ m0 ⟨0, H3, I4, st4, nfp, w0⟩
    rintro n s5 ⟨i, H5, I5, st5, n5, w5⟩
    rcases turn i n H5 w5 with ⟨stop, qq⟩ | ⟨go, Nx, hNx, step⟩
    · have td := T.done (X.blk s3 H3 scope ce fp) rfl rfl rfl hc i [] s5 _ H5 (fun _ _ => False) I5 (stat I5 n5) st5 stop
      refine thnF td fun r s6 ⟨hr, I6⟩ => ?_
      subst hr
      -- back in the def's context
      have I7 : Inv X pins σ H5 s6 := I3.call' (ch := fp) I6.os I6.base I6.hok I6.bare fun b hb => ⟨(f3 b hb).1.2.2.2.1, (f3 b hb).1.2.1, (f3 b hb).1.2.2.2.2.1, (f3 b hb).1.2.2.2.2.2⟩
      have nC : H5 s3.heap.objs.size = none := by
        have z : H5 ce.locals = none := I6.free
        rw [cL] at z
        exact z
      obtain ⟨m, hn, _⟩ := I6.loc
      have hn : s6.heap.Ns ce.locals m := hn
      rw [cL] at hn
      exact hRR D s3.heap.objs.size s6 m H5 I7 qq hn (I3.fpOk (Nat.le_refl _) nC)
    · have ti := T.item (X.blk s3 H3 scope ce fp) rfl rfl rfl hc i [] s5 _ H5 (fun _ _ => False) I5 (stat I5 n5) st5 go
      refine thnF ti fun r s6 ⟨u, hr, h6⟩ => ?_
      subst hr
      refine thnF h6 fun _ s7 ⟨x, H7, I7, r7, y7, st7, n7⟩ => ?_
      have I7' := I7.pinned (stat I7 n7) (T.obj _ _ st7)
      refine thnF (pg _ s7 _ H7 x u _ I7' r7 (step x H7 y7)) fun _ s8 ⟨σ8, H8, I8, hw8, q8⟩ => ?_
      refine thnF (pt _ s8 σ8 H8 _ I8 q8) fun b s9 ⟨H9, I9, q9⟩ => ?_
      -- the turn's end
      have fin : ∀ {s' : Shared} {H' : Hp}, Inv (X.blk s3 H3 scope ce fp) ([] ++ pinsAt fp s7.heap) σ8 H' s' → Nx H' → ∃ m, m < n ∧ ∃ i H', Inv (X.blk s3 H3 scope ce fp) [] (wipe σ (own.map (·.2))) H' s' ∧ tn i s'.heap ∧ (∀ b ∈ fp, H' b = none) ∧ W i m H' := fun {s' H'} I' nx => by
        obtain ⟨m', hm, w'⟩ := hNx H' nx
        have pin' : ∀ b ∈ fp, ∀ o, s7.heap.get? b = some o → s'.heap.get? b = some o ∧ H' b = none := fun b hb o e =>
          let z := I'.pin (b, o) (List.mem_append_right _ (List.mem_append_right _ (mem_pinsAt hb e)))
          ⟨z.1, z.2.1⟩
        have hl : (wipe σ (own.map (·.2))).length = σ8.length := by rw [← hw8, wipe_length]
        refine ⟨m', hm, i + 1, H', (I'.unpinned (pins := [])).weak hl (fun j v e => ?_), T.keep _ _ _ st7 fun b hb o e => (pin' b hb o e).1, fun b hb => ?_, w'⟩
        · rw [← hw8] at e
          exact (wipe_some e).1
        · obtain ⟨o, e, _⟩ := T.obj _ _ st7 b hb
          exact (pin' b hb o e).2
      cases b with
      | false =>
        simp only [Bool.false_eq_true, if_false] at q9 ⊢
        exact fin I9 q9
      | true =>
        simp only [if_true] at q9 ⊢
        refine thnF (pe _ s9 σ8 H9 _ I9 q9) fun z s10 ⟨yv, H10, I10, r10, acc, hD10, hz10, nx⟩ => ?_
        exact app_ok (X := X.blk s3 H3 scope ce fp) I10 hD10 hz10 r10 fun s11 I11 => fin I11 nx
  exact codeAny_compStart_list loop (T.self X.A 0 _ _ _ st4 loop)
theorem pe_lc {elt tg iter : Expr} {ifs : List Expr} {scope : Scope} {own : List (Str × Nat)} {pos : Pos} {wi : TI} {g : TG} {tt : TT} {te : TE} (hc : X.calm = true) (hN : X.N.Nodup) (hi : PI X tg iter wi) (ok : BlkOk X.N X.env.scope scope own)
    (hg : ∀ (s : Shared) (H : Hp) (C : Addr) (cl : List (Str × Addr)) (fp : List Addr), PG (X.blk s H scope (compEnvC scope cl C X.env) fp) tg g) (ht : ∀ (s : Shared) (H : Hp) (C : Addr) (cl : List (Str × Addr)) (fp : List Addr), PTs (X.blk s H scope (compEnvC scope cl C X.env) fp) ifs tt)
    (he : ∀ (s : Shared) (H : Hp) (C : Addr) (cl : List (Str × Addr)) (fp : List Addr), PE (X.blk s H scope (compEnvC scope cl C X.env) fp) elt te) (hs : ∀ x, foldedSetIterable iter X.env x = pure x := by intro _; rfl) :
    PE X (.ListComp elt [⟨tg, iter, ifs, 0⟩] scope pos) (tLc wi g tt te (own.map (·.2))) := by
  intro pins s σ H Q I h
  rw [eval_ListComp]
  refine lc_core hc hN I hi ok hg ht he hs h fun D C s' m H' I' q hn f => ⟨m, hn, fun h'' sb => ?_⟩
  obtain ⟨f0, f1, f2, f3, f4, f5⟩ := f
  exact ⟨.ref D, H', I'.turned (t' := s'.toks) (fun b o hb e => (sb.2 b hb).trans e) f0 f1 f3 f4 f5, rfl, q⟩
theorem ps_setLc {i : Nat} {y : Str} {py : Pos} {elt tg iter : Expr} {ifs : List Expr} {scope : Scope} {own : List (Str × Nat)} {pos spos : Pos} {wi : TI} {g : TG} {tt : TT} {te : TE} (hc : X.calm = true) (hN : X.N.Nodup) (hy : X.N[i]? = some y) (hyl : X.env.scope.names.lookup y = some .local)
    (hsw : swapsWith (.ListComp elt [⟨tg, iter, ifs, 0⟩] scope pos) (some (.Name y py)) spos.line X.env = pure true) (hi : PI X tg iter wi) (ok : BlkOk X.N X.env.scope scope own)
    (hg : ∀ (s : Shared) (H : Hp) (C : Addr) (cl : List (Str × Addr)) (fp : List Addr), PG (X.blk s H scope (compEnvC scope cl C X.env) fp) tg g) (ht : ∀ (s : Shared) (H : Hp) (C : Addr) (cl : List (Str × Addr)) (fp : List Addr), PTs (X.blk s H scope (compEnvC scope cl C X.env) fp) ifs tt)
    (he : ∀ (s : Shared) (H : Hp) (C : Addr) (cl : List (Str × Addr)) (fp : List Addr), PE (X.blk s H scope (compEnvC scope cl C X.env) fp) elt te) (hs : ∀ x, foldedSetIterable iter X.env x = pure x := by intro _; rfl) :
    PS X (.Assign [.Name y py] (.ListComp elt [⟨tg, iter, ifs, 0⟩] scope pos) spos) (tAsg (tLc wi g tt te (own.map (·.2))) (gName i)) := by
  intro pins s σ H D I h
  rw [exec_Assign_Name_used _ _ _ _ hsw]
  refine wpAny_bind (wpAny_standAt (wpAny_bind ?_))
  show wpAny _ X.A (do let _ ← comprehension (.ListComp elt [⟨tg, iter, ifs, 0⟩] scope pos) scope X.env (firstIterPos [⟨tg, iter, ifs, 0⟩] pos) (newList []) false (eval iter X.env) (some (assign (.Name y py) X.env))) _ _ s
  have h : tLc wi g tt te (own.map (·.2)) σ H (fun x H1 => gName i x σ H1 D.nx) := h
  refine wpAny_bind (thn (lc_core (Qf := fun _ s' => SP X pins D .next s') hc hN I hi ok hg ht he hs h fun L C s' m H' I' q hn f => ?_) fun _ s' hq => wpAny_pure (wpAny_pure hq))
  show wpAny _ _ (assign (.Name y py) X.env (.ref L)) _ _ _
  refine wpAny_assign_Name (store_ok2 (v := V.ref L) I' hN hy (.inl hyl) rfl (fun s2 I2 ⟨a, sb, ha⟩ => ?_) (.inr hyl))
  obtain ⟨f0, f1, f2, f3, f4, f5⟩ := f
  have haC : C ≠ a := by
    rcases ha with z | z
    · rw [z]; exact f1
    · exact fun e => f4 y a z e.symm
  refine ⟨m, hn.sameBut sb haC, fun h3 sb3 => ?_⟩
  exact ⟨_, H', I2.turned (t' := s2.toks) (fun b o hb e => (sb3.2 b hb).trans e) f0 f1 f3 f4 f5, q⟩
theorem sw_true {elt : Expr} {gs : List Comprehension} {scope : Scope} {pos py : Pos} {y : Str} {l : Nat} {env : Env} (hk : env.scope.kind = .function) (hy : env.scope.names.lookup y = some .local) (hl : (py.line == pos.line) = true)
    (ha : (scope.names.any fun (n, k) => n == y && (k == .local || k == .cell)) = false) : swapsWith (.ListComp elt gs scope pos) (some (.Name y py)) l env = pure true := by
  have ky : env.kindOf y = some .local := hy
  have hb : env.blockKind = .function := by unfold Env.blockKind; rw [hk]; rfl
  unfold swapsWith
  simp only [hb, ky, ha, Expr.pos, hl]
  rfl
end
theorem lc_range {lo : Int} {n : Nat} {g : TG} {tt : TT} {te : TE} {vs : List Nat} {σ : St} {H1 : Hp} {D : Addr} {Qd : Hp → Prop} (Pv : Nat → Hp → Prop) (h0 : Pv 0 (upd H1 D (.lst [])))
    (hs : ∀ i H, i < n → Pv i H → g (.int (lo + i)) (wipe σ vs) H fun σ2 H2 => wipe σ2 vs = wipe σ vs ∧ tt σ2 H2 fun b H3 =>
      if b = true then te σ2 H3 fun y H4 => ∃ acc, H4 D = some (.lst acc) ∧ acc.length < sizeLine ∧ Pv (i + 1) (upd H4 D (.lst (acc ++ [y]))) else Pv (i + 1) H3) (hd : ∀ H, Pv n H → Qd H) :
    ∃ W : Nat → Nat → Hp → Prop, (∃ m, W 0 m (upd H1 D (.lst []))) ∧ ∀ i m H, W i m H →
      ((Itr lo n).stop i H ∧ Qd H) ∨ ((Itr lo n).go i H ∧ ∃ Nx : Hp → Prop, (∀ H', Nx H' → ∃ m', m' < m ∧ W (i + 1) m' H') ∧ ∀ x H', (Itr lo n).yld i H x H' → g x (wipe σ vs) H' fun σ2 H2 => wipe σ2 vs = wipe σ vs ∧ tt σ2 H2 fun b H3 =>
        if b = true then te σ2 H3 fun y H4 => ∃ acc, H4 D = some (.lst acc) ∧ acc.length < sizeLine ∧ Nx (upd H4 D (.lst (acc ++ [y]))) else Nx H3) := by
  refine ⟨fun i m H => m = n - i ∧ i ≤ n ∧ Pv i H, ⟨n, by simp, Nat.zero_le _, h0⟩, ?_⟩
  rintro i m H ⟨rfl, hi, p⟩
  by_cases hlt : i < n
  · refine .inr ⟨hlt, Pv (i + 1), fun H' p' => ⟨n - (i + 1), by omega, rfl, hlt, p'⟩, fun x H' y => ?_⟩
    obtain ⟨e, y⟩ := y
    subst e y
    exact hs i _ hlt p
  · have e : i = n := by omega
    subst e
    exact .inl ⟨Nat.le_refl _, hd H p⟩
theorem lc_list {K : PySem.W.Frag} {a : Addr} {xs : List V} {g : TG} {tt : TT} {te : TE} {vs : List Nat} {σ : St} {H1 : Hp} {D : Addr} {Qd : Hp → Prop} (Pv : Nat → Hp → Prop) (h0 : Pv 0 (upd H1 D (.lst []))) (hl : ∀ i H, i ≤ xs.length → Pv i H → SqL K H a xs)
    (hs : ∀ i x H, xs[i]? = some x → Pv i H → g x (wipe σ vs) H fun σ2 H2 => wipe σ2 vs = wipe σ vs ∧ tt σ2 H2 fun b H3 =>
      if b = true then te σ2 H3 fun y H4 => ∃ acc, H4 D = some (.lst acc) ∧ acc.length < sizeLine ∧ Pv (i + 1) (upd H4 D (.lst (acc ++ [y]))) else Pv (i + 1) H3) (hd : ∀ H, Pv xs.length H → Qd H) :
    ∃ W : Nat → Nat → Hp → Prop, (∃ m, W 0 m (upd H1 D (.lst []))) ∧ ∀ i m H, W i m H →
      ((Itl K a).stop i H ∧ Qd H) ∨ ((Itl K a).go i H ∧ ∃ Nx : Hp → Prop, (∀ H', Nx H' → ∃ m', m' < m ∧ W (i + 1) m' H') ∧ ∀ x H', (Itl K a).yld i H x H' → g x (wipe σ vs) H' fun σ2 H2 => wipe σ2 vs = wipe σ vs ∧ tt σ2 H2 fun b H3 =>
        if b = true then te σ2 H3 fun y H4 => ∃ acc, H4 D = some (.lst acc) ∧ acc.length < sizeLine ∧ Nx (upd H4 D (.lst (acc ++ [y]))) else Nx H3) := by
  refine ⟨fun i m H => m = xs.length - i ∧ i ≤ xs.length ∧ Pv i H, ⟨xs.length, by simp, Nat.zero_le _, h0⟩, ?_⟩
  rintro i m H ⟨rfl, hi, p⟩
  have q := hl i H hi p
  by_cases hlt : i < xs.length
  · refine .inr ⟨⟨xs, xs[i], q, by simp [hlt]⟩, Pv (i + 1), fun H' p' => ⟨xs.length - (i + 1), by omega, rfl, hlt, p'⟩, fun x H' y => ?_⟩
    obtain ⟨e, y⟩ := y
    subst e
    exact hs i x _ (y xs q) p
  · have e : i = xs.length := by omega
    subst e
    exact .inl ⟨⟨xs, q, Nat.le_refl _⟩, hd H p⟩
def blkC (N : List Str) (sc scope : Scope) (own : List (Str × Nat)) : Bool :=
  (match scope.kind with | .function => true | _ => false) && (scope.names.all fun y => decide (scope.names.lookup y.1 = some y.2)) && (own.all fun p => decide (N[p.2]? = some p.1)) &&
    (scope.names.all fun y => match y.2 with
      | .free => (match sc.names.lookup y.1 with | some .cell => true | some .free => true | _ => false)
      | .local => decide (y.1 ∈ own.map (·.1)) || decide (y.1 ∉ N)
      | .cell => decide (y.1 ∈ own.map (·.1)) || decide (y.1 ∉ N)
      | _ => true)
theorem blkOk_by {N : List Str} {sc scope : Scope} {own : List (Str × Nat)} (h : blkC N sc scope own = true) : BlkOk N sc scope own := by
  unfold blkC at h
  simp only [Bool.and_eq_true, List.all_eq_true, decide_eq_true_eq] at h
  obtain ⟨⟨⟨h1, h2⟩, h3⟩, h4⟩ := h
  refine ⟨?_, h2, h3, fun y hy e => ?_, fun y hy e => ?_⟩
  · split at h1
    · assumption
    · cases h1
  · have q := h4 y hy
    simp only [e] at q
    split at q <;> first | exact .inl (by assumption) | exact .inr (by assumption) | cases q
  · have q := h4 y hy
    rcases e with e | e <;> (simp only [e, Bool.or_eq_true, decide_eq_true_eq] at q; exact q)
end L2
namespace L2
open PySem PySem.Spec PyProof.Rows
section
variable {prog : Program} {w : World} {A : Around} {R : Result → Shared → Prop} {s : Shared} {elt t0 i0 t1 i1 : Expr} {ifs0 ifs1 : List Expr} {scope : Scope} {pos : Pos} {it acc : Value} {env : Env}
end
section
variable {X : Cx}
end
end L2
namespace L2
open PySem PySem.Spec PyProof.Rows
section
variable {κ : Type} [DecidableEq κ]
def valV (kvs : List (κ × V)) (k : κ) : Option V := (kvs.find? fun kv => decide (kv.1 = k)).map (·.2)
def putK (kvs : List (κ × V)) (k : κ) (v : V) : List (κ × V) :=
  if (kvs.any fun kv => decide (kv.1 = k)) = true then kvs.map (fun kv => if kv.1 = k then (kv.1, v) else kv) else kvs ++ [(k, v)]
def dropK (kvs : List (κ × V)) (k : κ) : List (κ × V) := kvs.filter fun kv => decide (kv.1 ≠ k)
theorem valV_pos {p : κ × V} {r : List (κ × V)} {k : κ} (e : p.1 = k) : valV (p :: r) k = some p.2 := by simp [valV, List.find?_cons, e]
theorem valV_neg {p : κ × V} {r : List (κ × V)} {k : κ} (e : ¬ p.1 = k) : valV (p :: r) k = valV r k := by simp [valV, List.find?_cons, e]
theorem valV_any (k : κ) : ∀ kvs : List (κ × V), (kvs.any fun kv => decide (kv.1 = k)) = (valV kvs k).isSome
  | [] => rfl
  | p :: r => by
    rw [List.any_cons]
    by_cases e : p.1 = k
    · simp only [valV_pos e, decide_eq_true e, Bool.true_or, Option.isSome_some]
    · rw [valV_neg e, decide_eq_false e, Bool.false_or]; exact valV_any k r
theorem valV_map (k j : κ) (y : V) : ∀ kvs : List (κ × V), valV (kvs.map fun kv => if kv.1 = k then (kv.1, y) else kv) j = (valV kvs j).map fun x => if j = k then y else x
  | [] => rfl
  | p :: r => by
    have ih := valV_map k j y r
    rw [List.map_cons]
    by_cases h : p.1 = k
    · rw [if_pos h]
      by_cases e : p.1 = j
      · rw [valV_pos (p := (p.1, y)) e, valV_pos e, Option.map_some, if_pos (e.symm.trans h)]
      · rw [valV_neg (p := (p.1, y)) e, valV_neg e, ih]
    · rw [if_neg h]
      by_cases e : p.1 = j
      · rw [valV_pos (p := p) e, valV_pos e, Option.map_some, if_neg (fun z => h (e.trans z))]
      · rw [valV_neg (p := p) e, valV_neg e, ih]
theorem valV_snoc (k j : κ) (y : V) : ∀ kvs : List (κ × V), valV kvs k = none → valV (kvs ++ [(k, y)]) j = if j = k then some y else valV kvs j
  | [], _ => by
    by_cases e : k = j
    · rw [if_pos e.symm]; exact valV_pos (p := (k, y)) e
    · rw [if_neg (fun z => e z.symm)]; exact valV_neg (p := (k, y)) e
  | p :: r, hn => by
    rw [List.cons_append]
    have hk : ¬ p.1 = k := fun z => by rw [valV_pos z] at hn; cases hn
    rw [valV_neg hk] at hn
    have ih := valV_snoc k j y r hn
    by_cases e : p.1 = j
    · rw [valV_pos e, valV_pos e, if_neg (fun z => hk (e.trans z))]
    · rw [valV_neg e, valV_neg e, ih]
theorem valV_put (kvs : List (κ × V)) (k j : κ) (y : V) : valV (putK kvs k y) j = if j = k then some y else valV kvs j := by
  unfold putK
  by_cases a : (kvs.any fun kv => decide (kv.1 = k)) = true
  · rw [if_pos a, valV_map]
    rw [valV_any] at a
    by_cases e : j = k
    · obtain ⟨x, hx⟩ := Option.isSome_iff_exists.mp a
      rw [if_pos e, e, hx, Option.map_some, if_pos rfl]
    · rw [if_neg e]
      cases valV kvs j with
      | none => rfl
      | some x => rw [Option.map_some, if_neg e]
  · rw [if_neg a]
    refine valV_snoc k j y kvs ?_
    rw [valV_any] at a
    cases q : valV kvs k with
    | none => rfl
    | some x => rw [q] at a; exact (a rfl).elim
theorem length_putK (kvs : List (κ × V)) (k : κ) (v : V) : (putK kvs k v).length ≤ kvs.length + 1 := by
  unfold putK
  split
  · rw [List.length_map]; omega
  · rw [List.length_append, List.length_cons, List.length_nil]; omega
theorem putK_new {kvs : List (κ × V)} {k : κ} (v : V) (h : valV kvs k = none) : putK kvs k v = kvs ++ [(k, v)] := by
  unfold putK
  rw [valV_any, h]
  exact if_neg (by decide)
theorem RelO.isSome_eq {o : Option V} {u : Option Value} (r : RelO o u) : o.isSome = u.isSome := by
  cases o with
  | none => cases u with
    | none => rfl
    | some _ => exact (show False from r).elim
  | some _ => cases u with
    | none => exact (show False from r).elim
    | some _ => rfl
theorem KV.val {kvs : List (κ × V)} {vs : List (κ × Value)} (r : KV kvs vs) (k : κ) : RelO (valV kvs k) (valueAt vs k) := by
  unfold KV at r
  induction r with
  | nil => exact True.intro
  | @cons p q ps qs h t ih =>
    obtain ⟨h1, h2⟩ := h
    by_cases e : p.1 = k
    · have e' : q.1 = k := h1.symm.trans e
      have b : valueAt (q :: qs) k = some q.2 := by simp [valueAt, List.find?_cons, e']
      rw [valV_pos e, b]; exact h2
    · have e' : ¬ q.1 = k := fun z => e (h1.trans z)
      have b : valueAt (q :: qs) k = valueAt qs k := by simp [valueAt, List.find?_cons, e']
      rw [valV_neg e, b]; exact ih
theorem KV.any {kvs : List (κ × V)} {vs : List (κ × Value)} (r : KV kvs vs) (k : κ) : (kvs.any fun kv => decide (kv.1 = k)) = vs.any fun kv => decide (kv.1 = k) := by
  unfold KV at r
  induction r with
  | nil => rfl
  | cons h t ih => rw [List.any_cons, List.any_cons, ih, h.1]
theorem KV.repl {kvs : List (κ × V)} {vs : List (κ × Value)} (r : KV kvs vs) (k : κ) {y : V} {u : Value} (ry : RelV y u) :
    KV (kvs.map fun kv => if kv.1 = k then (kv.1, y) else kv) (vs.map fun kv => if kv.1 = k then (kv.1, u) else kv) := by
  unfold KV at r ⊢
  induction r with
  | nil => exact .nil
  | @cons p q ps qs h t ih =>
    rw [List.map_cons, List.map_cons]
    refine .cons ?_ ih
    obtain ⟨h1, h2⟩ := h
    by_cases e : p.1 = k
    · rw [if_pos e, if_pos (h1.symm.trans e)]; exact ⟨h1, ry⟩
    · rw [if_neg e, if_neg (fun z => e (h1.trans z))]; exact ⟨h1, h2⟩
theorem KV.put {kvs : List (κ × V)} {vs : List (κ × Value)} (r : KV kvs vs) (k : κ) {y : V} {u : Value} (ry : RelV y u) : KV (putK kvs k y) (stored vs k u) := by
  unfold putK stored
  rw [r.any k]
  by_cases e : (vs.any fun kv => decide (kv.1 = k)) = true
  · rw [if_pos e, if_pos e]; exact r.repl k ry
  · rw [if_neg e, if_neg e]; exact Paired.snoc r ⟨rfl, ry⟩
theorem KV.drop {kvs : List (κ × V)} {vs : List (κ × Value)} (r : KV kvs vs) (k : κ) : KV (dropK kvs k) (without vs k) := by
  unfold KV at r ⊢
  unfold dropK without
  induction r with
  | nil => exact .nil
  | @cons p q ps qs h t ih =>
    obtain ⟨h1, h2⟩ := h
    rw [List.filter_cons, List.filter_cons]
    by_cases e : p.1 = k
    · have a : ¬ decide (p.1 ≠ k) = true := by simp [e]
      have b : ¬ decide (q.1 ≠ k) = true := by simp [h1.symm.trans e]
      rw [if_neg a, if_neg b]; exact ih
    · have e' : ¬ q.1 = k := fun z => e (h1.trans z)
      have a : decide (p.1 ≠ k) = true := by simp [e]
      have b : decide (q.1 ≠ k) = true := by simp [e']
      rw [if_pos a, if_pos b]; exact .cons ⟨h1, h2⟩ ih
theorem KV.length {kvs : List (κ × V)} {vs : List (κ × Value)} (r : KV kvs vs) : kvs.length = vs.length := Paired.length r
theorem dropK_le (kvs : List (κ × V)) (k : κ) : (dropK kvs k).length ≤ kvs.length := List.length_filter_le _ _
end
theorem kV_is {P : Program} {w : World} {k : Key} {u : Value} (r : RelV (kV k) u) : (mixKind P w).is k u = true := by
  cases k with
  | inl i => obtain ⟨t, e⟩ := (show ∃ t, u = Value.int i t from r); subst e; exact mixKind_int P w i t
  | inr x => obtain ⟨t, e⟩ := (show ∃ t, u = Value.str x t from r); subst e; exact mixKind_str P w x t
theorem items_are {P : Program} {w : World} : ∀ {ks : List Key} {us : List Value}, Vals (ks.map kV) us → ItemsAre (mixKind P w) ks us
  | [], _, r => by rw [List.map_nil] at r; cases r; exact .nil
  | k :: ks, _, r => by
    rw [List.map_cons] at r
    cases r with
    | cons h t => exact .cons (kV_is h) (items_are t)
abbrev KT (H : Hp) : List (List Key × V) → List (List Key × Addr × Value) → Prop := Paired fun p q => p.1 = q.1 ∧ H q.2.1 = some (.tup (p.1.map kV)) ∧ RelV p.2 q.2.2
theorem KT.val {H : Hp} {kvs : List (List Key × V)} {xs : List (List Key × Addr × Value)} (r : KT H kvs xs) (k : List Key) : RelO (valV kvs k) ((atKey xs k).map (·.2)) := by
  induction r with
  | nil => exact True.intro
  | @cons p q ps qs h t ih =>
    obtain ⟨h1, _, h2⟩ := h
    by_cases e : p.1 = k
    · have e' : q.1 = k := h1.symm.trans e
      have b : atKey (q :: qs) k = some q.2 := by simp [atKey, List.find?_cons, e']
      rw [valV_pos e, b]; exact h2
    · have e' : ¬ q.1 = k := fun z => e (h1.trans z)
      have b : atKey (q :: qs) k = atKey qs k := by simp [atKey, List.find?_cons, e']
      rw [valV_neg e, b]; exact ih
theorem KT.repl {H : Hp} {kvs : List (List Key × V)} {xs : List (List Key × Addr × Value)} (r : KT H kvs xs) (k : List Key) {y : V} {u : Value} (ry : RelV y u) :
    KT H (kvs.map fun kv => if kv.1 = k then (kv.1, y) else kv) (xs.map (putAt k u)) := by
  induction r with
  | nil => exact .nil
  | @cons p q ps qs h t ih =>
    rw [List.map_cons, List.map_cons]
    refine .cons ?_ ih
    obtain ⟨h1, h2, h3⟩ := h
    unfold putAt
    by_cases e : p.1 = k
    · rw [if_pos e, if_pos (h1.symm.trans e)]; exact ⟨h1, h2, ry⟩
    · rw [if_neg e, if_neg (fun z => e (h1.trans z))]; exact ⟨h1, h2, h3⟩
theorem KT.put {H : Hp} {kvs : List (List Key × V)} {xs : List (List Key × Addr × Value)} (r : KT H kvs xs) (k : List Key) {b : Addr} {y : V} {u : Value} (hb : H b = some (.tup (k.map kV))) (ry : RelV y u) :
    KT H (putK kvs k y) (storedH xs k b u) := by
  have e : (kvs.any fun kv => decide (kv.1 = k)) = (atKey xs k).isSome := by
    rw [valV_any, (r.val k).isSome_eq, Option.isSome_map]
  unfold putK storedH
  rw [e]
  by_cases q : (atKey xs k).isSome = true
  · rw [if_pos q, if_pos q]; exact r.repl k ry
  · rw [if_neg q, if_neg q]; exact Paired.snoc r ⟨rfl, hb, ry⟩
theorem KT.keeps {H H' : Hp} {kvs : List (List Key × V)} {xs : List (List Key × Addr × Value)} (r : KT H kvs xs) (ht : ∀ b ys, H b = some (.tup ys) → H' b = some (.tup ys)) : KT H' kvs xs :=
  Paired.mapP r fun _ _ z => ⟨z.1, ht _ _ z.2.1, z.2.2⟩
section
variable {P : Program} {w : World} {H : Hp} {h : Heap} {a : Addr}
theorem rd_of {u : HO} (ok : HOk P w H h) (e : Rd H a u) : ObjOk P w H h a u := e.ok ok
theorem dk_rd {kvs : List (Key × V)} (ok : HOk P w H h) (e : Rd H a (.dK kvs)) : kvs.length ≤ sizeLine ∧ (a == sysModules) = false ∧ ∃ vs, KV kvs vs ∧ h.DictOf (mixKind P w) a vs :=
  show ObjOk P w H h a (.dK kvs) from rd_of ok e
theorem dk_of {kvs : List (Key × V)} (ok : HOk P w H h) (e : H a = some (.dK kvs)) : kvs.length ≤ sizeLine ∧ (a == sysModules) = false ∧ ∃ vs, KV kvs vs ∧ h.DictOf (mixKind P w) a vs := dk_rd ok (.inl e)
theorem key_of {ks : List Key} (ok : HOk P w H h) (e : H a = some (.tup (ks.map kV))) : (tupleKind (mixKind P w)).is h ks a := by
  obtain ⟨_, its, r, o, h1, h2, n, h3⟩ := (show ObjOk P w H h a (.tup (ks.map kV)) from ok a _ e)
  exact ⟨o, its.toArray, n, h1, h2, h3, by simpa using items_are r⟩
theorem dt_rd {kvs : List (List Key × V)} (ok : HOk P w H h) (e : Rd H a (.dT kvs)) : kvs.length ≤ sizeLine ∧ (a == sysModules) = false ∧
    ∃ xs, KT H kvs xs ∧ h.DictOfH (tupleKind (mixKind P w)) a xs := by
  obtain ⟨z, y, xs, r, o, es, ep, h1, h2, h3, h4, h5⟩ := (show ObjOk P w H h a (.dT kvs) from rd_of ok e)
  refine ⟨z, y, xs, r, o, es, ep, h1, h2, h3, h4, fun x hx => ?_, h5⟩
  have all : ∀ {l : List (List Key × V)} {m : List (List Key × Addr × Value)}, KT H l m → ∀ x ∈ m, (tupleKind (mixKind P w)).is h x.1 x.2.1 := by
    intro l m q
    induction q with
    | nil => intro x hx; exact nomatch hx
    | @cons p q ps qs hq t ih =>
      intro x hx
      rcases List.mem_cons.mp hx with e | hx
      · subst e
        exact key_of ok (by rw [← hq.1]; exact hq.2.1)
      · exact ih x hx
  exact all r x hx
theorem dt_of {kvs : List (List Key × V)} (ok : HOk P w H h) (e : H a = some (.dT kvs)) : kvs.length ≤ sizeLine ∧ (a == sysModules) = false ∧
    ∃ xs, KT H kvs xs ∧ h.DictOfH (tupleKind (mixKind P w)) a xs := dt_rd ok (.inl e)
end
def DGet (H : Hp) (a : Addr) (y : V) (r : Option V) : Prop :=
  (∃ kvs k, Rd H a (.dK kvs) ∧ y = kV k ∧ r = valV kvs k) ∨ ∃ kvs k b, Rd H a (.dT kvs) ∧ y = .ref b ∧ H b = some (.tup (k.map kV)) ∧ r = valV kvs k
def DPut (H : Hp) (a : Addr) (y v : V) (H' : Hp) : Prop :=
  (∃ kvs k, H a = some (.dK kvs) ∧ y = kV k ∧ kvs.length < sizeLine ∧ H' = upd H a (.dK (putK kvs k v))) ∨
  ∃ kvs k b, H a = some (.dT kvs) ∧ y = .ref b ∧ H b = some (.tup (k.map kV)) ∧ kvs.length < sizeLine ∧ H' = upd H a (.dT (putK kvs k v))
theorem DGet.k {H : Hp} {a : Addr} {kvs : List (Key × V)} {k : Key} (e : H a = some (.dK kvs)) : DGet H a (kV k) (valV kvs k) := .inl ⟨kvs, k, .inl e, rfl, rfl⟩
theorem DPut.k {H : Hp} {a : Addr} {kvs : List (Key × V)} {k : Key} {v : V} (e : H a = some (.dK kvs)) (hl : kvs.length < sizeLine) : DPut H a (kV k) v (upd H a (.dK (putK kvs k v))) := .inl ⟨kvs, k, e, rfl, hl, rfl⟩
section
variable {X : Cx} {pins : List (Addr × Obj)} {σ : St} {H : Hp} {s : Shared} {a : Addr} {y v : V} {u r : Value} {o : Option V} {A : Around} {E : Value → Shared → Prop}
theorem Inv.big (I : Inv X pins σ H s) : sysModules < s.heap.objs.size := by
  have h : mainGlobals < s.heap.objs.size := (I.mod.glob.keeps I.bk).lt
  exact Nat.lt_trans (by decide) h
theorem d_getItem {Q : Value → Shared → Prop} (hu : A.units + 1 < cLine) (I : Inv X pins σ H s) (g : DGet H a y (some v)) (ry : RelV y u) (h : ∀ w' s', Inv X pins σ H s' → RelV v w' → Q w' s') :
    wpAny (model X.prog X.w) A (getItem (.ref a) u) Q E s := by
  rcases g with ⟨kvs, k, e, ey, l⟩ | ⟨kvs, k, b, e, ey, eb, l⟩
  · subst ey
    obtain ⟨z, hd, vs, rel, dd⟩ := dk_rd I.hok e
    obtain ⟨w', hw, rw'⟩ := RelO.some_of (v := v) (o := valueAt vs k) (by rw [l]; exact rel.val k)
    exact wpAny_getItem_of (kV_is ry) dd.mapOf hw (h w' _ (I.tok _) rw')
  · subst ey
    cases (show u = Value.ref b from ry)
    obtain ⟨z, hd, xs, rel, dd⟩ := dt_rd I.hok e
    obtain ⟨w', hw, rw'⟩ := RelO.some_of (v := v) (o := (atKey xs k).map (·.2)) (by rw [l]; exact rel.val k)
    obtain ⟨p, hp, hp2⟩ := Option.map_eq_some_iff.mp hw
    refine wpAny_getItem_heap (tupleKind_room_in1 hu) (key_of I.hok eb) dd hp ?_
    rw [hp2]
    exact h w' _ (I.tok _) rw'
theorem d_in {Q : Value → Shared → Prop} (hu : A.units + 1 < cLine) (I : Inv X pins σ H s) (g : DGet H a y o) (ry : RelV y u) (h : ∀ s', Inv X pins σ H s' → Q (.bool o.isSome) s') :
    wpAny (model X.prog X.w) A (compareOp .In u (.ref a)) Q E s := by
  rcases g with ⟨kvs, k, e, ey, l⟩ | ⟨kvs, k, b, e, ey, eb, l⟩
  · subst ey
    obtain ⟨z, hd, vs, rel, dd⟩ := dk_rd I.hok e
    refine wpAny_in_of (kV_is ry) hd dd.mapOf ?_
    rw [← (rel.val k).isSome_eq, ← l]
    exact h _ (I.tok _)
  · subst ey
    cases (show u = Value.ref b from ry)
    obtain ⟨z, hd, xs, rel, dd⟩ := dt_rd I.hok e
    refine wpAny_in_heap (tupleKind_room_in1 hu) (key_of I.hok eb) hd dd ?_
    have q := (rel.val k).isSome_eq
    rw [Option.isSome_map] at q
    rw [← q, ← l]
    exact h _ (I.tok _)
theorem d_notIn {Q : Value → Shared → Prop} (hu : A.units + 1 < cLine) (I : Inv X pins σ H s) (g : DGet H a y o) (ry : RelV y u) (h : ∀ s', Inv X pins σ H s' → Q (.bool (!o.isSome)) s') :
    wpAny (model X.prog X.w) A (compareOp .NotIn u (.ref a)) Q E s := by
  rcases g with ⟨kvs, k, e, ey, l⟩ | ⟨kvs, k, b, e, ey, eb, l⟩
  · subst ey
    obtain ⟨z, hd, vs, rel, dd⟩ := dk_rd I.hok e
    refine wpAny_notIn_of (kV_is ry) hd dd.mapOf ?_
    rw [← (rel.val k).isSome_eq, ← l]
    exact h _ (I.tok _)
  · subst ey
    cases (show u = Value.ref b from ry)
    obtain ⟨z, hd, xs, rel, dd⟩ := dt_rd I.hok e
    refine wpAny_notIn_heap (tupleKind_room_in1 hu) (key_of I.hok eb) hd dd ?_
    have q := (rel.val k).isSome_eq
    rw [Option.isSome_map] at q
    rw [← q, ← l]
    exact h _ (I.tok _)
theorem d_write {h' : Heap} {t' : Nat} {ob : HO} (I : Inv X pins σ H s) (mu : Mut (H a)) (hs : Heap.SameBut a s.heap h') (he : ∃ q, h'.get? a = some q) (new : ObjOk X.prog X.w (upd H a ob) h' a ob) :
    Inv X pins σ (upd H a ob) { s with heap := h', toks := t' } :=
  I.write (x := a) (e := a) mu (.inl rfl) (fun b q hb z => (hs.2 b hb).trans z) he new
theorem dk_new {P : Program} {w : World} {H' : Hp} {h' : Heap} {kvs : List (Key × V)} {vs : List (Key × Value)} (z : kvs.length ≤ sizeLine) (hd : (a == sysModules) = false) (rel : KV kvs vs) (dd : h'.DictOf (mixKind P w) a vs) :
    ObjOk P w H' h' a (.dK kvs) := ⟨z, hd, vs, rel, dd⟩
theorem d_setItem {H' : Hp} {Q : Unit → Shared → Prop} (hu : A.units + 1 < cLine) (I : Inv X pins σ H s) (g : DPut H a y v H') (ry : RelV y u) (rv : RelV v r) (h : ∀ s', Inv X pins σ H' s' → Q () s') :
    wpAny (model X.prog X.w) A (setItem (.ref a) u r) Q E s := by
  rcases g with ⟨kvs, k, e, ey, l, eH⟩ | ⟨kvs, k, b, e, ey, eb, l, eH⟩
  · subst ey eH
    obtain ⟨z, hd, vs, rel, dd⟩ := dk_of I.hok e
    have hz : vs.length ≤ sizeLine := by rw [← rel.length]; exact z
    have hl : (putK kvs k v).length ≤ sizeLine := by have := length_putK kvs k v; omega
    refine wpAny_setItem_pairs (hsz := hz) (kV_is ry) dd fun h' dd' hs => h _ ?_
    have he : ∃ q, h'.get? a = some q := let ⟨q, _, _, hq, _⟩ := dd'; ⟨q, hq⟩
    exact d_write I (by rw [e]; exact True.intro) hs he (dk_new hl hd (rel.put k rv) dd')
  · subst ey eH
    cases (show u = Value.ref b from ry)
    obtain ⟨z, hd, xs, rel, dd⟩ := dt_of I.hok e
    have hz : xs.length ≤ sizeLine := by rw [← Paired.length rel]; exact z
    have hl : (putK kvs k v).length ≤ sizeLine := by have := length_putK kvs k v; omega
    refine wpAny_setItem_heap (hsz := hz) (tupleKind_room_in1 hu) (key_of I.hok eb) dd fun h' dd' hs => h _ ?_
    obtain ⟨q, es, ep, hq, h2, h3, h4, _, h5⟩ := dd'
    refine d_write I (by rw [e]; exact True.intro) hs ⟨q, hq⟩ ⟨hl, hd, _, (rel.put k eb rv).keeps fun c ys ec => ?_, q, es, ep, hq, h2, h3, h4, h5⟩
    rw [upd_ne (ne_of ec e (fun z => nomatch z))]
    exact ec
end
section
variable {X : Cx} {pins : List (Addr × Obj)} {σ : St} {H : Hp} {s : Shared} {a : Addr} {kvs : List (Key × V)} {k : Key} {u : Value} {A : Around} {E : Value → Shared → Prop}
theorem d_pop {v : V} {more : List Value} {Q : Value → Shared → Prop} (I : Inv X pins σ H s) (e : H a = some (.dK kvs)) (ry : RelV (kV k) u) (l : valV kvs k = some v) (hm : more = [] ∨ ∃ x, more = [x])
    (h : ∀ w' s', Inv X pins σ (upd H a (.dK (dropK kvs k))) s' → RelV v w' → Q w' s') : wpAny (model X.prog X.w) A (call (.builtin "dict.pop") (.ref a :: u :: more)) Q E s := by
  obtain ⟨z, hd, vs, rel, dd⟩ := dk_of I.hok e
  obtain ⟨w', hw, rw'⟩ := RelO.some_of (v := v) (o := valueAt vs k) (by rw [← l]; exact rel.val k)
  have hp : (keyPart u).isSome = true := by
    cases k with
    | inl i => obtain ⟨t, q⟩ := (show ∃ t, u = Value.int i t from ry); subst q; rfl
    | inr x => obtain ⟨t, q⟩ := (show ∃ t, u = Value.str x t from ry); subst q; rfl
  have ha : argsOk "dict.pop" ⟨.ref a :: u :: more, []⟩ := by
    rcases hm with q | ⟨x, q⟩
    · subst q; exact PySem.F.args_dict_pop_2 _ _
    · subst q; exact PySem.F.args_dict_pop_3 _ _ _
  refine call_meetsIn PySem.F.slot_dict_pop dd.typeIs PySem.F.entry_dict_pop ha (meets_dict_pop_there (mixKind X.prog X.w) a (kV_is ry) more hm hp)
    ⟨vs, w', dd, by rw [← rel.length]; exact z, hw, fun h' dd' hs => h w' _ ?_ rw'⟩
  have he : ∃ q, h'.get? a = some q := let ⟨q, _, _, hq, _⟩ := dd'; ⟨q, hq⟩
  exact d_write I (by rw [e]; exact True.intro) hs he (dk_new (Nat.le_trans (dropK_le kvs k) z) hd (rel.drop k) dd')
theorem d_len {Q : Value → Shared → Prop} (I : Inv X pins σ H s) (e : Rd H a (.dK kvs)) (h : ∀ t s', Inv X pins σ H s' → Q (.int kvs.length t) s') : wpAny (model X.prog X.w) A (call (.builtin "len") [.ref a]) Q E s := by
  obtain ⟨z, hd, vs, rel, dd⟩ := dk_rd I.hok e
  refine call_len_dict hd dd (by rw [← rel.length]; rw [sizeLine_eq] at z; omega) ?_
  rw [← rel.length]
  exact h _ _ (I.tok _)
end
def NoSl (i : Expr) : Prop := ∀ ov iv, subscripted i false ov iv = operate [ov, iv] (getItem ov iv)
theorem subD_of {prog : Program} {w : World} {A : Around} {E : Value → Shared → Prop} {s : Shared} {env : Env} {value slice : Expr} {pos : Pos} {T id : String} {Q : Value → Shared → Prop}
    (hl : typeLookup (.type T) "__getitem__" = pure (some (.builtin id))) (hs : NoSl slice)
    (h : wpAny (model prog w) A (eval value env) (fun o s₁ => wpAny (model prog w) A (eval slice env) (fun i s₂ => s₂.TypeIs o T ∧ wpAny (model prog w) A (getItem o i) Q E s₂) E s₁) E s) :
    wpAny (model prog w) A (eval (.Subscript value slice pos) env) Q E s := by
  refine Subscript_ (wpAny_mono h (fun o s₁ h₁ => wpAny_mono h₁ (fun i s₂ h₂ => ?_) fun _ _ x => x) fun _ _ x => x)
  obtain ⟨hT, h₂⟩ := h₂
  unfold subscriptTail
  refine wpAny_bind ?_
  rw [getitemInPython_of_ne hT.not_modules]
  refine wpAny_bind (wpAny_specialOf hT hl ?_)
  have fin : wpAny (model prog w) A (subscripted slice false o i) (fun r s₃ => wpAny (model prog w) A (letTemporaryGo value o r >>= fun _ => pure r) Q E s₃) E s₂ := by
    rw [hs o i]
    exact wpAny_operating (wpAny_mono h₂ (fun r s₃ h₃ => wpAny_bind (wpAny_letTemporaryGo (wpAny_pure h₃))) fun _ _ x => x)
  first
    | exact wpAny_pure (wpAny_bind fin)
    | exact wpAny_bind (wpAny_pure (wpAny_bind fin))
    | exact wpAny_bind fin
theorem dict_typeIs {X : Cx} {pins : List (Addr × Obj)} {σ : St} {H : Hp} {s : Shared} {a : Addr} {y : V} {o : Option V} (I : Inv X pins σ H s) (g : DGet H a y o) : s.TypeIs (.ref a) "dict" := by
  rcases g with ⟨kvs, k, e, _, _⟩ | ⟨kvs, k, b, e, _, _, _⟩
  · obtain ⟨_, _, vs, _, dd⟩ := dk_rd I.hok e
    exact dd.typeIs
  · obtain ⟨_, _, xs, _, dd⟩ := dt_rd I.hok e
    exact dd.typeIs
def tDGet (td ty : TE) : TE := fun σ H Q => td σ H fun x H1 => ty σ H1 fun y H2 => ∃ a v, x = .ref a ∧ DGet H2 a y (some v) ∧ Q v H2
def tDIn (ty td : TE) : TE := fun σ H Q => ty σ H fun y H1 => td σ H1 fun x H2 => ∃ a o, x = .ref a ∧ DGet H2 a y o ∧ Q (.bl o.isSome) H2
def tDNotIn (ty td : TE) : TE := fun σ H Q => ty σ H fun y H1 => td σ H1 fun x H2 => ∃ a o, x = .ref a ∧ DGet H2 a y o ∧ Q (.bl (!o.isSome)) H2
def sDPut (td ty tv : TE) : TS := fun D σ H => tv σ H fun v H1 => td σ H1 fun x H2 => ty σ H2 fun y H3 => ∃ a H4, x = .ref a ∧ DPut H3 a y v H4 ∧ D.nx σ H4
section
variable {X : Cx} {o i e value : Expr} {pos pos' tpos : Pos} {td ty tv : TE}
theorem pe_dget (hu : X.A.units + 1 < cLine) (ho : PE X o td) (hi : PE X i ty) (hs : NoSl i) : PE X (.Subscript o i pos) (tDGet td ty) := by
  intro pins s σ H Q I h
  refine subD_of PySem.F.slot_dict_getitem.lookup hs (thn (ho pins s σ H _ I h) fun u s1 ⟨x, H1, I1, rx, q1⟩ => thn (hi pins s1 σ H1 _ I1 q1) fun iv s2 ⟨y, H2, I2, ry, a, v, ex, g, q2⟩ => ?_)
  subst ex
  obtain rfl : u = Value.ref a := rx
  exact ⟨dict_typeIs I2 g, d_getItem hu I2 g ry fun w' s3 I3 rw' => ⟨v, H2, I3, rw', q2⟩⟩
theorem pc_din (hu : X.A.units + 1 < cLine) (hi : PE X i ty) (ho : PE X o td) : PC X .In i o (tDIn ty td) := by
  intro pins s σ H Q I h
  refine thn (hi pins s σ H _ I h) fun iv s1 ⟨y, H1, I1, ry, q1⟩ => thn (ho pins s1 σ H1 _ I1 q1) fun u s2 ⟨x, H2, I2, rx, a, ov, ex, g, q2⟩ => ?_
  subst ex
  obtain rfl : u = Value.ref a := rx
  exact d_in hu I2 g ry fun s3 I3 => ⟨.bl ov.isSome, H2, I3, rfl, q2⟩
theorem pc_dnotin (hu : X.A.units + 1 < cLine) (hi : PE X i ty) (ho : PE X o td) : PC X .NotIn i o (tDNotIn ty td) := by
  intro pins s σ H Q I h
  refine thn (hi pins s σ H _ I h) fun iv s1 ⟨y, H1, I1, ry, q1⟩ => thn (ho pins s1 σ H1 _ I1 q1) fun u s2 ⟨x, H2, I2, rx, a, ov, ex, g, q2⟩ => ?_
  subst ex
  obtain rfl : u = Value.ref a := rx
  exact d_notIn hu I2 g ry fun s3 I3 => ⟨.bl (!ov.isSome), H2, I3, rfl, q2⟩
theorem ps_dput (hu : X.A.units + 1 < cLine) (ho : PE X o td) (hi : PE X i ty) (hv : PE X value tv) (hs : swapsWith value (some (.Subscript o i pos')) pos.line X.env = pure false) :
    PS X (.Assign [.Subscript o i pos'] value pos) (sDPut td ty tv) := by
  intro pins s σ H D I h
  refine wpAny_Assign_Subscript (thn (hv pins s σ H _ I h) fun r s1 ⟨v, H1, I1, rv, q1⟩ => thn (ho pins s1 σ H1 _ I1 q1) fun u s2 ⟨x, H2, I2, rx, q2⟩ => thn (hi pins s2 σ H2 _ I2 q2) fun iv s3 ⟨y, H3, I3, ry, a, H4, ex, g, q3⟩ => ?_) hs
  subst ex
  obtain rfl : u = Value.ref a := rx
  exact d_setItem hu I3 g ry rv fun s4 I4 => ⟨σ, H4, I4, q3⟩
end
theorem dk_empty {P : Program} {w : World} {H : Hp} (h : Heap) (hb : sysModules < h.objs.size) : ObjOk P w H (h.push { cls := .type "dict", data := .dict #[] }) h.objs.size (.dK []) :=
  ⟨Nat.zero_le _, beq_eq_false_iff_ne.mpr (Ne.symm (Nat.ne_of_lt hb)), [], .nil, Heap.DictOf.new h⟩
def tDNewK : TE := fun _ H Q => ∀ p, H p = none → Q (.ref p) (upd H p (.dK []))
section
variable {X : Cx} {pos : Pos}
theorem pe_dnewK : PE X (.Dict [] [] pos) tDNewK := fun pins s σ H Q I h =>
  wpAny_Dict_empty ⟨.ref s.heap.objs.size, _, I.laid (a := s.heap.objs.size) (o := .dK []) (t' := s.toks) (fun _ _ q => Heap.get?_push_of_some _ q) (Nat.le_refl _) (dk_empty s.heap I.big), rfl, h _ (I.hok.fresh (Nat.le_refl _))⟩
end
structure M1 (X : Cx) (o : Expr) (m : Str) (apos : Pos) (e : Expr) (cpos : Pos) : Prop where
  base : attributeBase o m X.env (eval o X.env) = eval o X.env
  few : ((backTo cpos (starEach [e] X.env)).all (fun x => !x.1) && (backToKw cpos (keywordEach [] X.env)).all (fun x => x.1.isSome)
    && decide (([e] : List Expr).length + ([] : List Keyword).length + (if ([] : List Keyword).isEmpty then 0 else 1) < 30)) = true
  line : (apos.endLine == cpos.line) = true
  trees : backTo cpos (starEach [e] X.env) = [(false, eval e X.env)]
def IsD (H : Hp) (a : Addr) : Prop := (∃ kvs, Rd H a (.dK kvs)) ∨ ∃ kvs, Rd H a (.dT kvs)
theorem isD_at {X : Cx} {pins : List (Addr × Obj)} {σ : St} {H : Hp} {s : Shared} {a : Addr} (I : Inv X pins σ H s) (d : IsD H a) :
    s.TypeIs (.ref a) "dict" ∧ (∀ b, Value.ref a = .ref b → ∃ ob, s.heap.get? b = some ob ∧ ob.dict = none) ∧ (a == sysModules) = false := by
  rcases d with ⟨kvs, e⟩ | ⟨kvs, e⟩
  · obtain ⟨_, hd, vs, _, dd⟩ := dk_rd I.hok e
    refine ⟨dd.typeIs, fun b q => ?_, hd⟩
    cases q
    obtain ⟨ob, _, _, h1, h2, _⟩ := dd
    exact ⟨ob, h1, h2.2.1⟩
  · obtain ⟨_, hd, xs, _, dd⟩ := dt_rd I.hok e
    refine ⟨dd.typeIs, fun b q => ?_, hd⟩
    cases q
    obtain ⟨ob, _, _, h1, h2, _⟩ := dd
    exact ⟨ob, h1, h2.2.1⟩
section
variable {X : Cx} {pins : List (Addr × Obj)} {σ : St} {H : Hp} {s : Shared} {a : Addr} {y d : V} {u r : Value} {o : Option V} {A : Around} {E : Value → Shared → Prop}
end
def tDPop1 (td ty : TE) : TE := fun σ H Q => td σ H fun x H1 => ∃ a, x = .ref a ∧ IsD H1 a ∧ ty σ H1 fun y H2 => ∃ kvs k v, H2 a = some (.dK kvs) ∧ y = kV k ∧ valV kvs k = some v ∧ Q v (upd H2 a (.dK (dropK kvs k)))
section
variable {X : Cx} {o e f : Expr} {apos cpos : Pos} {td ty tx : TE}
theorem pe_dpop1 (ho : PE X o td) (he : PE X e ty) (m : M1 X o "pop" apos e cpos) : PE X (.Call (.Attribute o "pop" apos) [e] [] cpos) (tDPop1 td ty) := by
  intro pins s σ H Q I h
  refine wpAny_Call_method m.base m.few m.line PySem.F.plainAttrs_dict PySem.F.slot_dict_pop PySem.F.type_dict_pop (thn (ho pins s σ H _ I h) fun u s1 ⟨x, H1, I1, rx, a, ex, d, q1⟩ => ?_)
  subst ex
  obtain rfl : u = Value.ref a := rx
  obtain ⟨t1, t2, _⟩ := isD_at I1 d
  refine ⟨t1, t2, ?_⟩
  rw [m.trees]
  refine Calls.callWith_builtin rfl (Calls.evalArgs_plain (Calls.spliced_cons (thn (he pins s1 σ H1 _ I1 q1) fun iv s2 ⟨y, H2, I2, ry, kvs, k, v, ea, ey, l, q2⟩ => Calls.spliced_nil ?_)))
  subst ey
  exact d_pop I2 ea ry l (.inl rfl) fun w' s3 I3 rw' => ⟨v, _, I3, rw', q2⟩
end
section
variable {X : Cx} {pins : List (Addr × Obj)} {σ : St} {H : Hp} {s : Shared} {a : Addr} {kvs : List (Key × V)} {A : Around} {E : Value → Shared → Prop}
end
section
variable {X : Cx} {pins : List (Addr × Obj)} {σ : St} {H : Hp} {s : Shared} {a : Addr} {y : V} {u : Value} {A : Around} {E : Value → Shared → Prop}
end
end L2
namespace L2
open PySem PySem.Spec PyProof.Rows
section
variable {prog : Program} {w : World} {A : Around} {E : Value → Shared → Prop}
end
section
variable {X : Cx}
end
end L2
namespace L2
open PySem PySem.Spec PyProof.Rows
theorem boot_reversed5 : bootBuiltins "reversed" = some (.type "reversed") := by decide +kernel
section
variable {X : Cx} {pins : List (Addr × Obj)} {σ : St} {H : Hp} {s : Shared} {h' : Heap}
theorem Inv.lock {d : Addr} {u : HO} (I : Inv X pins σ H s) (h : H d = some u) (mu : Mut (some u)) : ∃ od, Inv X pins σ (upd H d (.frz od u)) s := by
  have x := I.hok d u h
  have ex : ∃ od, s.heap.get? d = some od := by
    cases u with
    | lst xs => obtain ⟨_, _, _, _, e⟩ := x; exact ⟨_, e⟩
    | dK kvs => obtain ⟨_, _, _, _, o, _, _, e, _⟩ := x; exact ⟨o, e⟩
    | dT kvs => obtain ⟨_, _, _, _, o, _, _, e, _⟩ := x; exact ⟨o, e⟩
    | set S n => obtain ⟨o, _, _, _, e, _⟩ := x; exact ⟨o, e⟩
    | ins C dx fs => obtain ⟨_, _, _, e, _⟩ := x; exact ⟨_, e⟩
    | ext φ => obtain ⟨_, ⟨_, e⟩, _⟩ := x; exact ⟨_, e⟩
    | _ => exact False.elim mu
  obtain ⟨od, e⟩ := ex
  have new : ObjOk X.prog X.w (upd H d (.frz od u)) s.heap d (.frz od u) := by
    refine ⟨e, x.stay (fun b v _ q => q) (fun b q => ?_) fun b xs q => ?_⟩
    · rw [upd_ne (fun z => by rw [z, h] at q; cases q; exact mu)]; exact q
    · rw [upd_ne (fun z => by rw [z, h] at q; cases q; exact mu)]; exact q
  exact ⟨od, I.write (x := d) (e := d) (t' := s.toks) (h' := s.heap) (by rw [h]; exact mu) (.inl rfl) (fun b v _ q => q) ⟨od, e⟩ new⟩
theorem Inv.nofrz {d : Addr} {u : HO} (I : Inv X pins σ H s) (h : H d = some u) (mu : Mut (some u)) : ∀ o' u', X.H₀ d ≠ some (.frz o' u') := fun o' u' e => by
  have q := I.base.frzs d o' u' e
  rw [h] at q
  cases q
  exact mu
theorem Inv.unlock {d : Addr} {od : Obj} {u : HO} (I : Inv X pins σ H s) (h : H d = some (.frz od u)) (hn : ∀ o' u', X.H₀ d ≠ some (.frz o' u')) : Inv X pins σ (upd H d u) s := by
  have neH : ∀ b o, H b = some o → (∀ o' u', o ≠ .frz o' u') → b ≠ d := fun b o e hne z => by
    rw [z, h] at e
    cases e
    exact hne _ _ rfl
  have neN : ∀ b, H b = none → b ≠ d := fun b e z => by rw [z, h] at e; cases e
  refine ⟨I.ok, I.os, I.bare, ⟨I.base.keep, I.base.slot, fun b o e n hx => ?_, I.base.there, fun b xs e => ?_, fun b o x e => ?_, fun b ps e => ?_⟩, I.loc, I.cell, ?_, fun x c e => ?_, fun p hp => ?_, fun b o e => ?_, I.len⟩
  · rw [upd_ne (neN b (I.base.free b o e n hx))]; exact I.base.free b o e n hx
  · have q := I.base.tups b xs e
    rw [upd_ne (neH b _ q (fun _ _ z => nomatch z))]; exact q
  · have q := I.base.frzs b o x e
    rw [upd_ne (fun z => by rw [z] at e; exact hn _ _ e)]; exact q
  · obtain ⟨m, q⟩ := I.base.tbls b ps e
    exact ⟨m, by rw [upd_ne (neH b _ q (fun _ _ z => nomatch z))]; exact q⟩
  · rw [upd_ne (neN _ I.free)]; exact I.free
  · rw [upd_ne (neN c (I.freeC x c e))]; exact I.freeC x c e
  · obtain ⟨e, n, r⟩ := I.pin p hp
    exact ⟨e, by rw [upd_ne (neN _ n)]; exact n, r⟩
  · by_cases hb : b = d
    · rw [hb, upd_same] at e
      cases e
      rw [hb]
      obtain ⟨_, x⟩ := I.hok d _ h
      exact x.stay (fun c v _ q => q) (fun c q => by rw [upd_ne (neH c _ q (fun _ _ z => nomatch z))]; exact q) fun c xs q => by rw [upd_ne (neH c _ q (fun _ _ z => nomatch z))]; exact q
    · rw [upd_ne hb] at e
      exact (I.hok b o e).stay (fun c v _ q => q) (fun c q => by rw [upd_ne (neH c _ q (fun _ _ z => nomatch z))]; exact q) fun c xs q => by rw [upd_ne (neH c _ q (fun _ _ z => nomatch z))]; exact q
end
def tLock (t : TS) : TS := fun D σ H => ∃ d u, H d = some u ∧ Mut (some u) ∧ ∀ od, t ⟨fun σ' H' => H' d = some (.frz od u) ∧ D.nx σ' (upd H' d u), fun v H' => H' d = some (.frz od u) ∧ D.rt v (upd H' d u), fun σ' H' => H' d = some (.frz od u) ∧ D.bk σ' (upd H' d u), fun σ' H' => H' d = some (.frz od u) ∧ D.ct σ' (upd H' d u)⟩ σ (upd H d (.frz od u))
section
variable {X : Cx}
theorem ps_lock {st : Stmt} {t : TS} (h : PS X st t) : PS X st (tLock t) := by
  intro pins s σ H D I hw
  obtain ⟨d, u, hd, mu, hw⟩ := hw
  obtain ⟨od, I1⟩ := I.lock hd mu
  refine thn (h pins s σ _ _ I1 (hw od)) fun f s1 q => ?_
  cases f with
  | next => obtain ⟨σ', H', I2, e, q⟩ := q; exact ⟨σ', _, I2.unlock e (I.nofrz hd mu), q⟩
  | brk => obtain ⟨σ', H', I2, e, q⟩ := q; exact ⟨σ', _, I2.unlock e (I.nofrz hd mu), q⟩
  | cont => obtain ⟨σ', H', I2, e, q⟩ := q; exact ⟨σ', _, I2.unlock e (I.nofrz hd mu), q⟩
  | ret v => obtain ⟨x, σ', H', I2, r, e, q⟩ := q; exact ⟨x, σ', _, I2.unlock e (I.nofrz hd mu), r, q⟩
theorem pi_one {tg : Expr} {pins : List (Addr × Obj)} {σ : St} {H : Hp} {s : Shared} {R : It → Hp → Prop} {J : It} {tn : Nat → Heap → Prop} {tk : Nat} (I : Inv X pins σ H s) (o : Obj)
    (T : Turn X.prog X.w X.K tg J [s.heap.objs.size] s.heap.objs.size tn) (st : tn 0 (s.heap.push o)) (q : R J H) : PIE X pins σ tg R (.ref s.heap.objs.size) { s with heap := s.heap.push o, toks := tk } := by
  refine ⟨s.heap.objs.size, [s.heap.objs.size], tn, J, H, rfl, I.kept fun b ob e => Heap.get?_push_of_some _ e, T, st, fun b hb => ?_, q⟩
  have e : b = s.heap.objs.size := by simpa using hb
  subst e
  exact I.fpOk (Nat.le_refl _) (I.hok.fresh (Nat.le_refl _))
end
section
variable {X : Cx} {tg : Expr}
end
def Itv (K : PySem.W.Frag) (a : Addr) (n : Nat) : It :=
  ⟨fun i H => i < n ∧ ∃ (xs : List V) (x : V), SqL K H a xs ∧ xs[n - 1 - i]? = some x, fun i H x H' => H' = H ∧ ∀ xs, SqL K H a xs → xs[n - 1 - i]? = some x, fun i _ => n ≤ i⟩
theorem turn_rev {P : Program} {w : World} {K : PySem.W.Frag} {tg : Expr} (a it : Addr) (n : Nat) : Turn P w K tg (Itv K a n) [it] it (fun i h => i ≤ n ∧ h.IsRevIter it a ((n : Int) - 1 - (i : Nat))) where
  mem := by simp
  obj := fun i h st b hb => by
    have e : b = it := by simpa using hb
    subst e
    obtain ⟨_, o, e, c, d⟩ := st
    exact ⟨o, e, fun v z => by rw [d] at z; cases z⟩
  keep := fun i h h' st k => ⟨st.1, st.2.at fun o e => k it (by simp) o e⟩
  item := by
    intro X hP hw hK hc i pins s σ H E I hf st hg
    subst hP hw hK
    obtain ⟨hin, xs, x, hq, hx⟩ := hg
    obtain ⟨its, rv, p, hz⟩ := I.list hq
    obtain ⟨u, hu, ru⟩ := rv.get hx
    obtain ⟨f0, f1, f2, f3, f4, f5⟩ := hf it (by simp)
    obtain ⟨_, hit⟩ := st
    have e1 : (n : Int) - 1 - ((i : Nat) : Int) = ((n - 1 - i : Nat) : Int) := by omega
    rw [e1] at hit
    refine wpAny_pyNext_rev_item hit p.isList (x := u) (by simpa using hu) fun h' st' sb => ?_
    have e2 : ((n - 1 - i : Nat) : Int) - 1 = (n : Int) - 1 - ((i + 1 : Nat) : Int) := by omega
    rw [e2] at st'
    have I1 : Inv X pins σ H { s with heap := h' } := I.turned (t' := s.toks) (fun b o hb e => (sb.2 b hb).trans e) f0 f1 f3 f4 f5
    obtain ⟨o, e, c, d⟩ := id st'
    exact ⟨u, rfl, go_of (s := { s with heap := h' }) e c d (by decide) ⟨x, H, I1, ru, ⟨rfl, fun ys hy => by rw [I.list_inj hy hq]; exact hx⟩, ⟨hin, st'⟩, fun b hb => (hf b hb).1⟩⟩
  done := by
    intro X hP hw hK hc i pins s σ H E I hf st hg
    subst hP hw hK
    obtain ⟨f0, f1, f2, f3, f4, f5⟩ := hf it (by simp)
    obtain ⟨hin, hit⟩ := st
    have hge : n ≤ i := hg
    have e1 : (n : Int) - 1 - ((i : Nat) : Int) = -1 := by omega
    rw [e1] at hit
    exact wpAny_pyNext_rev_end (I.ok.hd hc) hit fun h' eb => ⟨rfl, I.turned (t' := s.toks) (fun b o hb e => eb b o hb e) f0 f1 f3 f4 f5⟩
  self := fun A i s Q E st h => wpAny_pyIter_revIter st.2 h
def iRev (K : PySem.W.Frag) (ta : TA) : TI := fun σ H R => ta σ H fun vs H1 => ∃ (a : Addr) (xs : List V), vs = [.ref a] ∧ SqL K H1 a xs ∧ R (Itv K a xs.length) H1
section
variable {X : Cx} {tg : Expr}
theorem pi_reversed {e : Expr} {ta : TA} {p pos : Pos} (hg : Gl X "reversed") (hm : X.mg "reversed" = none) (ha : PA X [e] ta) (hs : starEach [e] X.env = [(false, eval e X.env)] := by rfl) : PI X tg (.Call (.Name "reversed" p) [e] [] pos) (iRev X.K ta) := by
  intro pins s σ H R I h
  refine Call_ (ld_blt I hg hm boot_reversed5 (PyProof.Rows.callWith_type1 (thn (ha pos pins s σ H _ I h) fun us s1 ⟨vs, H1, I1, r1, q1⟩ => ?_) hs rfl))
  obtain ⟨a, xs, e, hq, q⟩ := q1
  subst e
  cases r1 with
  | cons r rr =>
    cases rr
    cases r
    obtain ⟨its, rv, p', hz⟩ := I1.list hq
    have hl := rv.length
    have e1 : ((its.toArray.size : Nat) : Int) - 1 = (xs.length : Int) - 1 - ((0 : Nat) : Int) := by simp only [List.size_toArray]; omega
    refine call_reversed_list p'.isList (wpAny_pyIter_revIter (l := a) (i := ((its.toArray.size : Nat) : Int) - 1) ⟨_, Heap.get?_push_size _ rfl, rfl, rfl⟩ ?_)
    refine pi_one (tk := s1.toks) I1 _ (turn_rev a _ xs.length) ⟨Nat.zero_le _, ?_⟩ q
    rw [← e1]
    exact ⟨_, Heap.get?_push_size _ rfl, rfl, rfl⟩
end
section
variable {prog : Program} {w : World} {A : Around} {E : Value → Shared → Prop} {s : Shared}
end
theorem kv_get {κ : Type} {kvs : List (κ × V)} {vs : List (κ × Value)} (h : KV kvs vs) : ∀ {i : Nat} {k : κ} {v : V}, kvs[i]? = some (k, v) → ∃ u, vs[i]? = some (k, u) ∧ RelV v u := by
  unfold KV at h
  induction h with
  | nil => intro i k v e; simp at e
  | @cons a b l₁ l₂ r t ih =>
    intro i k v e
    cases i with
    | zero =>
      simp only [List.getElem?_cons_zero, Option.some.injEq] at e
      subst e
      refine ⟨b.2, ?_, r.2⟩
      simp only [List.getElem?_cons_zero]
      exact congrArg some (Prod.ext r.1.symm rfl)
    | succ j =>
      simp only [List.getElem?_cons_succ] at e ⊢
      exact ih e
theorem paired_get {α β : Type} {G : α → β → Prop} {l₁ : List α} {l₂ : List β} (h : Paired G l₁ l₂) : ∀ {i : Nat} {a : α}, l₁[i]? = some a → ∃ b, l₂[i]? = some b ∧ G a b := by
  induction h with
  | nil => intro i a e; simp at e
  | @cons a b l₁ l₂ r t ih =>
    intro i a' e
    cases i with
    | zero =>
      simp only [List.getElem?_cons_zero, Option.some.injEq] at e
      subst e
      exact ⟨b, rfl, r⟩
    | succ j =>
      simp only [List.getElem?_cons_succ] at e ⊢
      exact ih e
section
variable {X : Cx} {pins : List (Addr × Obj)} {σ : St} {H : Hp} {s : Shared} {d : Addr} {o : Obj}
theorem Inv.frzK {kvs : List (Key × V)} (I : Inv X pins σ H s) (h : H d = some (.frz o (.dK kvs))) :
    (d == sysModules) = false ∧ s.heap.get? d = some o ∧ o.ExactDict ∧ ∃ (es : Array DictEntry) (ep : Nat) (vs : List (Key × Value)), o.data = .dict es ep ∧ es.size = kvs.length ∧ KV kvs vs ∧ s.heap.DictAt (mixKind X.prog X.w) d vs ep := by
  obtain ⟨hd, z, hs, vs, kv, o', es, ep, ho, hx, hdt, r⟩ := I.hok d _ h
  rw [hd] at ho
  cases ho
  refine ⟨hs, hd, hx, es, ep, vs, hdt, ?_, kv, o, es, hd, hx, hdt, r⟩
  have l1 := r.2.1.length
  have l2 : kvs.length = vs.length := Paired.length kv
  rw [Array.length_toList] at l1
  omega
end
def Itd (d : Addr) (o : Obj) (kvs : List (Key × V)) : It :=
  ⟨fun i H => H d = some (.frz o (.dK kvs)) ∧ i < kvs.length, fun i H x H' => H' = H ∧ ∃ k, kvs[i]? = some (k, x), fun i H => H d = some (.frz o (.dK kvs)) ∧ kvs.length ≤ i⟩
theorem dict_ep {o : Obj} {es es' : Array DictEntry} {ep ep' : Nat} (h : o.data = .dict es ep) (h' : o.data = .dict es' ep') : es' = es ∧ ep' = ep := by
  rw [h] at h'
  cases h'
  exact ⟨rfl, rfl⟩
section
variable {P : Program} {w : World} {K : PySem.W.Frag} {tg : Expr} {d : Addr} {o : Obj} {es : Array DictEntry} {ep : Nat}
theorem turn_vals {kvs : List (Key × V)} (it : Addr) (hod : o.data = .dict es ep) : Turn P w K tg (Itd d o kvs) [it] it (fun i h => h.IsValIter it d i kvs.length ep) where
  mem := by simp
  obj := fun i h st b hb => by
    have e : b = it := by simpa using hb
    subst e
    obtain ⟨oi, e, c, dd⟩ := st
    exact ⟨oi, e, fun v z => by rw [dd] at z; cases z⟩
  keep := fun i h h' st k => st.at fun oi e => k it (by simp) oi e
  item := by
    intro X hP hw hK hc i pins s σ H E I hf st hg
    subst hP hw hK
    obtain ⟨hd, hi⟩ := hg
    obtain ⟨f0, f1, f2, f3, f4, f5⟩ := hf it (by simp)
    obtain ⟨hs, hgd, hx, es', ep', vs, hdt, hsz, kv, hm⟩ := I.frzK hd
    obtain ⟨rfl, rfl⟩ := dict_ep hod hdt
    obtain ⟨⟨k, v⟩, hkv⟩ : ∃ p, kvs[i]? = some p := ⟨kvs[i], List.getElem?_eq_getElem hi⟩
    obtain ⟨u, hu, ru⟩ := kv_get kv hkv
    have hl : kvs.length = vs.length := Paired.length kv
    rw [hl] at st
    refine wpAny_pyNext_values_item st hm hu fun h' st' sb => ?_
    have I1 : Inv X pins σ H { s with heap := h' } := I.turned (t' := s.toks) (fun b ob hb e => (sb.2 b hb).trans e) f0 f1 f3 f4 f5
    obtain ⟨oi, e, c, dd⟩ := id st'
    refine ⟨u, rfl, go_of (s := { s with heap := h' }) e c dd (by decide) ⟨v, H, I1, ru, ⟨rfl, k, hkv⟩, ?_, fun b hb => (hf b hb).1⟩⟩
    show h'.IsValIter it d (i + 1) kvs.length _
    rw [hl]
    exact st'
  done := by
    intro X hP hw hK hc i pins s σ H E I hf st hg
    subst hP hw hK
    obtain ⟨hd, hi⟩ := hg
    obtain ⟨f0, f1, f2, f3, f4, f5⟩ := hf it (by simp)
    obtain ⟨hs, hgd, hx, es', ep', vs, hdt, hsz, kv, hm⟩ := I.frzK hd
    obtain ⟨rfl, rfl⟩ := dict_ep hod hdt
    have hl : kvs.length = vs.length := Paired.length kv
    rw [hl] at st
    exact wpAny_pyNext_values_end (I.ok.hd hc) st hm (List.getElem?_eq_none (by omega)) fun h' eb => ⟨rfl, I.turned (t' := s.toks) (fun b ob hb e => eb b ob hb e) f0 f1 f3 f4 f5⟩
  self := fun A i s Q E st h => wpAny_pyIter_valiter st h
end
def iVals (td : TE) : TI := fun σ H R => td σ H fun x H1 => ∃ d o kvs, x = .ref d ∧ H1 d = some (.frz o (.dK kvs)) ∧ R (Itd d o kvs) H1
section
variable {X : Cx} {tg e : Expr} {td : TE} {apos cpos : Pos}
theorem pi_values (he : PE X e td) (hbase : attributeBase e "values" X.env (eval e X.env) = eval e X.env := by rfl) (hline : (apos.endLine == cpos.line) = true := by rfl) : PI X tg (.Call (.Attribute e "values" apos) [] [] cpos) (iVals td) := by
  intro pins s σ H R I h
  refine wpAny_Call_method (T := "dict") (id := "dict.values") hbase rfl hline F.plainAttrs_dict F.slot_dict_values F.type_dict_values (thn (he pins s σ H _ I h) fun u s1 ⟨x, H1, I1, rx, d, o, kvs, ex, hd, q⟩ => ?_)
  subst ex
  obtain rfl : u = Value.ref d := rx
  obtain ⟨hs, hgd, hx, es, ep, vs, hdt, hsz, kv, hm⟩ := I1.frzK hd
  have hl : kvs.length = vs.length := Paired.length kv
  refine ⟨hm.dictOf.typeIs, hm.dictOf.mapOf.noDict, ?_⟩
  have I2 : Inv X pins σ H1 { s1 with heap := s1.heap.push { cls := .type "dict_values", data := .fields #[.ref d] } } := I1.kept (t' := s1.toks) fun b ob q => Heap.get?_push_of_some _ q
  have fin : wpAny (model X.prog X.w) X.A (pyIter (.ref s1.heap.objs.size)) (PIE X pins σ tg R) X.xe { s1 with heap := s1.heap.push { cls := .type "dict_values", data := .fields #[.ref d] } } := by
    refine wpAny_pyIter_values (d := d) (knd := mixKind X.prog X.w) ⟨_, Heap.get?_push_size _ rfl, rfl, rfl⟩ (hm.push _) (pi_one (tk := s1.toks) I2 _ (turn_vals _ hdt) ⟨_, Heap.get?_push_size _ rfl, rfl, ?_⟩ q)
    rw [hl] <;> rfl
  show wpAny _ _ (callWith cpos (.builtin "dict.values") [.ref d] [] []) _ X.xe s1
  exact method_meetsIn F.slot_dict_values F.entry_dict_values rfl (PySem.evalArgs_none ⟨rfl, hm.dictOf.typeIs, F.args_dict_values_1 _, _, meets_dict_values (mixKind X.prog X.w) d hs, ⟨vs, hm.dictOf⟩, fin⟩)
end
end L2
section
namespace Bits
open PySem PyProof.Rows
end Bits
end
section
namespace TL
open PySem PySem.Builtin PySem.Builtin.Str PySem.StrLaws
def pre (S l : List Nat) : Bool := l.take S.length == S
def par (S : List Nat) : List Nat → List Nat → Option (List Nat × List Nat)
  | _, [] => none
  | acc, c :: r => if pre S (c :: r) = true then some (acc, (c :: r).drop S.length) else par S (acc ++ [c]) r
end TL
end
namespace L2
open PySem PySem.Spec PyProof.Rows
section
variable {X : Cx} {pins : List (Addr × Obj)} {σ : St} {H : Hp} {s : Shared} {Q : VK}
end
section
variable {X : Cx}
end
section
variable {X : Cx} {o e : Expr} {to te : TE}
end
end L2
namespace L2
open PySem PySem.Spec PyProof.Rows
section
variable {X : Cx}
end
end L2
namespace Att
open PySem PySem.W PySem.Calls PyProof.Rows
theorem ints_of_wellAll {P : Params} {h : Heap} : ∀ (ns : List Int) (vs : List Value), WellAll P h vs (ns.map WData.int) → IntsAre vs ns := by
  intro ns
  induction ns with
  | nil =>
    intro vs w
    rw [List.map_nil] at w
    cases w
    exact .nil
  | cons n ns ih =>
    intro vs w
    rw [List.map_cons] at w
    cases w with
    | cons a b =>
      cases a
      exact .cons _ _ (ih _ b)
section
variable {prog : Program} {w : World} {A : Around} {E : Value → Shared → Prop} {s : Shared} {K : Frag}
end
end Att
namespace L2
open PySem PySem.Spec PyProof.Rows
theorem vals_ints : ∀ {vs : List Value} {ns : List Int}, IntsAre vs ns → Vals (ns.map V.int) vs
  | _, _, .nil => .nil
  | _, _, .cons n t h => .cons ⟨t, rfl⟩ (vals_ints h)
def Only (H : Hp) : Prop := ∀ b, H b = none ∨ ∃ o xs, H b = some (.frz o (.lst xs))
end L2
namespace L2
open PySem PySem.Spec PyProof.Rows
abbrev KOf {K : PySem.W.Frag} {h : Heap} (_ : K.In h) : PySem.W.Frag := K
end L2

/- THE LAST THEOREM (shape; LID, My.* are yours):
   My.Adr: a structure of the addresses that your layer names (classes, functions); My.Txt K t: a structure (Prop) of the equations over K;
   My.txt_mk : {K} {implicit addresses ..} (e1 : nsIn K mainGlobals "law" = some (some (.ref f))) (e2 : K.lookup f = some ⟨oc, od, .func (fnOf "law" "law" params body scope dV kV doc pm an cdv ct), sl⟩) (e3 : codeIn K cdv "law" = true) .. : ∃ t, My.Txt K t

set_option maxRecDepth 100000 in
set_option maxHeartbeats 0 in
theorem PySem.Challenge.cw_LID_holds : PySem.Challenge.rw_LID.Holds := by
  w_on; o_law; k_head; (case hw => w_witness2)
  k_fill
  refine L2.walk_of (l := PySem.Challenge.rw_LID) (n := 63) (k := 40) (x := "script") (CX := fun w => ..) (sp := fun _ => My.sp_law) rfl (by decide) rfl ⟨rfl, by decide, by decide⟩ (fun w h Y => PySem.W.kIn_of Y) ?F ?S ?C
  case F =>
    intro w mg fa h KX G hmg
    have T : ∃ t, My.Txt (L2.KOf KX) t := by
      dsimp only [L2.KOf]                          -- K must stand as «<heap const> w.params» for k_is
      refine' My.txt_mk ?e1 ?e2 ?e3 ..
      (case e1 => PySem.W.k_is)                    -- in the order: a name -> its address -> its object -> its parts
      (case e2 => PySem.W.k_is)
      ..
    obtain ⟨t, T⟩ := T
    have e0 := hmg.symm.trans (PySem.W.mg_of KX G T.law)
    cases e0                                       -- fa is the law's own address
    exact ⟨_, fun s u => .of_eq rfl, fun base kb nb => My.law_fn T kb nb⟩     -- if «.of_eq rfl» comes too early: refine' ⟨_, ?b, fun base kb nb => My.law_fn T kb nb⟩; exact fun s u => .of_eq rfl
  case S => exact fun w H a ns hl hO hS => ..
  case C => exact ..
(the tactic k_is has no namespace: write k_is) -/
namespace L2
open PySem PySem.Spec PyProof.Rows
def inClass (s : Stmt) (j : Nat) : Stmt := match s with
  | .ClassDef _ _ _ body _ _ _ _ _ _ _ => body.getD j (.Pass ⟨0, 0, 0, 0⟩)
  | _ => .Pass ⟨0, 0, 0, 0⟩
def defArgs (s : Stmt) : Arguments := match s with
  | .FunctionDef _ a _ _ _ _ _ _ _ _ => a
  | _ => { posonlyargs := [], args := [], vararg := none, kwonlyargs := [], kw_defaults := [], kwarg := none, defaults := [] }
def defBody (s : Stmt) : List Stmt := match s with
  | .FunctionDef _ _ b _ _ _ _ _ _ _ => b
  | _ => []
def defScope (s : Stmt) : Scope := match s with
  | .FunctionDef _ _ _ _ _ _ sc _ _ _ => sc
  | _ => { kind := .function, names := [], isGenerator := false, isCoroutine := false }
abbrev CX0 : CXT := fun _ _ _ _ _ _ => False
abbrev E0 : XK := fun _ _ _ => False
theorem pass0 {X : Cx} : Passes CX0 X E0 := fun _ _ _ _ _ _ _ h => h.elim
structure Fun (K : PySem.W.Frag) (x qual : Str) (st : Stmt) (f : Addr) (fd : FuncData) : Prop where
  ex : ∃ (oc : Value) (od : Option Addr) (kV doc pm : Value) (an : Option Addr) (cdv ct : Value) (osl : Array (Option Value)),
    fd = PySem.W.fnOf x qual (defArgs st) (defBody st) (defScope st) .none kV doc pm an cdv ct ∧ K.lookup f = some ⟨oc, od, .func fd, osl⟩ ∧ PySem.W.codeIn K cdv qual = true
  kp : PySem.W.keepIn K (.ref f) = true
section
variable {P : Program} {w : World} {K : PySem.W.Frag} {mg : Str → Option Value} {base : Heap}
theorem Fun.ok {x qual : Str} {st : Stmt} {f : Addr} {fd : FuncData} {N ps : List Str} {k : Nat} {sp : Sp} (F : Fun K x qual st f fd) (S : FnScope N ps (defScope st)) (len : ∀ vs H Q E, sp vs H Q E → vs.length = ps.length)
    (hbody : ∀ (cdv : Value) (A : Around) (outer : List Env) (s : Shared) (H : Hp) (vs : List V) (Q : VK) (E : XK), Room k (A.deeper (envOfC qual (defScope st) s.heap.objs.size f cdv)) → sp vs H Q E →
      ∃ t, PSs (cxOf CX0 P w K mg base N qual (defScope st) f cdv A outer s H E).nox (defBody st) t ∧ t { nx := fun _ H' => Q .non H', rt := Q } (start N vs) H) : FnOk P w K mg base CX0 (k + 1) f fd ps sp := by
  obtain ⟨oc, od, kV, doc, pm, an, cdv, ct, osl, rfl, lk, hcd⟩ := F.ex
  refine fn_of lk hcd S len fun A outer s H vs Q E hr hsp => ?_
  obtain ⟨t, h, q⟩ := hbody cdv A outer s H vs Q E hr hsp
  exact ⟨t, h.nox, q⟩
theorem Fun.binds {x qual : Str} {st : Stmt} {f : Addr} {fd : FuncData} {ps : List Str} (F : Fun K x qual st f fd)
    (h : ∀ (kV doc pm : Value) (an : Option Addr) (cdv ct : Value) (us : List Value), us.length = ps.length → bindArgs (PySem.W.fnOf x qual (defArgs st) (defBody st) (defScope st) .none kV doc pm an cdv ct) ⟨us, []⟩ = pure (ps.zip us)) : Binds K fd ps [] := by
  obtain ⟨oc, od, kV, doc, pm, an, cdv, ct, osl, rfl, lk, hcd⟩ := F.ex
  exact .all (h kV doc pm an cdv ct)
theorem fun_mk {x qual : Str} {st : Stmt} {f : Addr} {oc : Value} {od an : Option Addr} {osl : Array (Option Value)} {kV doc pm cdv ct : Value} (l : K.lookup f = some ⟨oc, od, .func (PySem.W.fnOf x qual (defArgs st) (defBody st) (defScope st) .none kV doc pm an cdv ct), osl⟩)
    (c : PySem.W.codeIn K cdv qual = true) (k : PySem.W.keepIn K (.ref f) = true) : Fun K x qual st f (PySem.W.fnOf x qual (defArgs st) (defBody st) (defScope st) .none kV doc pm an cdv ct) := ⟨⟨oc, od, kV, doc, pm, an, cdv, ct, osl, rfl, l, c⟩, k⟩
end
theorem hu_of {A : Around} {k : Nat} (hr : Room k A) : A.units + 1 < cLine := Nat.lt_of_le_of_lt (Nat.add_le_add_left (by decide : 1 ≤ 64) _) hr.units
section
variable {X : Cx}
theorem pv (i : Nat) {x : Str} {pos : Pos} (hN : X.N[i]? = some x := by rfl) (hv : Vis X.env.scope x := by first | exact Or.inl rfl | exact Or.inr (Or.inl rfl) | exact Or.inr (Or.inr rfl)) (hd : (x == ("__debug__" : Str)) = false := by decide)
    (hcd : (x == ("__classdict__" : Str)) = false := by decide) : PE X (.Name x pos) (tVar i) := pe_var hN hv hd hcd
theorem call_lenD : CallR X (.builtin "len") (fun xs H Q => ∃ a kvs, xs = [V.ref a] ∧ H a = some (.dK kvs) ∧ Q (.int kvs.length) H) := by
  intro pins s σ H xs us Q I r h
  obtain ⟨a, kvs, rfl, ha, q⟩ := h
  obtain ⟨u, rfl, ru⟩ := vals1 r
  cases ru
  exact d_len I (.inl ha) fun t s' I' => ⟨.int kvs.length, H, I', ⟨t, rfl⟩, q⟩
end
section
variable {κ : Type} [DecidableEq κ]
end
end L2
namespace My
open PySem PySem.Spec PyProof.Rows L2
def tFrz (t : TE) : TE := fun σ H Q => t σ H fun v H1 => ∃ d u, v = .ref d ∧ H1 d = some u ∧ Mut (some u) ∧ ∀ od, Q v (upd H1 d (.frz od u))
theorem pe_frz {X : Cx} {e : Expr} {t : TE} (h : PE X e t) : PE X e (tFrz t) := by
  intro pins s σ H Q I hw
  refine thn (h pins s σ H _ I hw) fun v s1 ⟨x, H1, I1, r, d, u, _, hd, mu, q⟩ => ?_
  obtain ⟨od, I2⟩ := I1.lock hd mu
  exact ⟨x, _, I2, r, q od⟩
theorem ints_of_vals : ∀ {ns : List Int} {vs : List Value}, Vals (ns.map V.int) vs → IntsAre vs ns
  | [], [], _ => .nil
  | [], _ :: _, h => nomatch h
  | n :: ns, vs, h => by
    cases h with
    | cons r t =>
      obtain ⟨tk, rfl⟩ := r
      exact .cons n tk (ints_of_vals t)
theorem spec_call {P : Program} {w : World} {K : PySem.W.Frag} {mg mb : Str → Option Value} {CX : CXT} {k : Nat} {fa a : Addr} {fd : FuncData} {x : Str} {sp : Sp} {s₁ : Shared} {vs : List Value} {ns res : List Int}
    (KX : K.In s₁.heap) (hns : s₁.heap.Ns mainGlobals mg) (hb : s₁.heap.Ns builtinsNs mb) (hbb : ∀ x : Str, x ≠ "__name__" → mb x = bootBuiltins x) (hlim : s₁.heap.NoLimit) (hg : s₁.gens = #[])
    (ha : s₁.heap.get? a = some { cls := .type "list", data := .seq vs.toArray }) (hi : IntsAre vs ns) (hl : ns.length ≤ sizeLine) (hr : Room k callerA)
    (F : ∀ base : Heap, K.In base → base.Ns mainGlobals mg → FnOk P w K mg base CX k fa fd [x] sp) (hbind : ∀ (s : Shared) (u : Value), BindsTo s fd ⟨[u], []⟩ [(x, u)])
    (hsp : ∀ H : Hp, Only H → SqL K H a (ns.map V.int) → sp [.ref a] H (fun v H' => ∃ b, v = .ref b ∧ H' b = some (.lst (res.map V.int))) fun _ _ _ => False)
    (hCX : ∀ H e s', CX [] H s₁ (fun _ _ _ => False) e s' → False) :
    codeAny (model P w) callerA (.call (.ref fa) ⟨[.ref a], []⟩) (fun r s' => (∃ b ws n, r = .ok (.ret (.ref b)) ∧ s'.heap.get? b = some { cls := .type "list", data := .seq (List.toArray ws) n } ∧ IntsAre ws res) ∧ OldK s₁.heap s'.heap ∧ s'.os = s₁.os ∧ AllBare s'.gens) s₁ := by
  have rv := vals_ints hi
  have lenV := hi.length
  have core : ∀ H : Hp, Only H → SqL K H a (ns.map V.int) → HOk P w H s₁.heap → (∀ b, H b ≠ none → b = a) → (H a ≠ none → K.lookup a = none) →
      codeAny (model P w) callerA (.call (.ref fa) ⟨[.ref a], []⟩) (fun r s' => (∃ b ws n, r = .ok (.ret (.ref b)) ∧ s'.heap.get? b = some { cls := .type "list", data := .seq (List.toArray ws) n } ∧ IntsAre ws res) ∧ OldK s₁.heap s'.heap ∧ s'.os = s₁.os ∧ AllBare s'.gens) s₁ := by
    intro H hO hS hok hA hK
    have base_of : ∀ {b : Addr} {o : Obj}, s₁.heap.get? b = some o → H b = none → (hidT s₁.heap H).get? b = some o := fun e n => hidT_get e n
    have noA : ∀ {b : Addr} {o : Obj} {es : Array DictEntry} {ep : Nat}, s₁.heap.get? b = some o → o.data = .dict es ep → H b = none := fun {b o es ep} e d => by
      cases q : H b with
      | none => rfl
      | some u =>
        have e' : b = a := hA b (by rw [q]; simp)
        subst e'
        rw [ha] at e; cases e
        have d' : Data.seq vs.toArray _ = Data.dict es ep := d
        cases d'
    have nsK : ∀ {b : Addr} {m : Str → Option Value}, s₁.heap.Ns b m → (hidT s₁.heap H).Ns b m := fun {b m} ⟨o, es, ep, e, d, r⟩ => ⟨o, es, ep, base_of e (noA e d), d, r⟩
    have hKb : K.In (hidT s₁.heap H) := fun b o e => base_of (KX b o e) (by
      cases q : H b with
      | none => rfl
      | some u =>
        have e' : b = a := hA b (by rw [q]; simp)
        subst e'
        rw [hK (by rw [q]; simp)] at e; cases e)
    have hM : Mod K mg (hidT s₁.heap H) := ⟨hKb, nsK hns, ⟨mb, nsK hb, hbb⟩, let ⟨mc, h1, h2⟩ := hlim; ⟨mc, nsK h1, h2⟩⟩
    have e0 : Env0 P w K mg (hidT s₁.heap H) callerA [] s₁ H := ⟨rfl, hM, fun b o e => of_hidT e, Nat.le_of_eq (hidT_size _ _), trivial, fun b hb => absurd (show b ∈ ([] : List Addr) from hb) (by simp), hok, .of_eq hg⟩
    refine codeAny_mono ((F _ hKb (nsK hns)).run callerA [] s₁ H ⟨[.ref a], []⟩ [.ref a] [.ref a] _ _ hr e0 (hbind s₁ (.ref a)) (.cons rfl .nil) (hsp H hO hS)) fun r s' h => ?_
    cases r with
    | error e => exact (hCX H e s' h).elim
    | ok fl =>
      cases fl with
      | next => exact False.elim h
      | brk => exact False.elim h
      | cont => exact False.elim h
      | ret u =>
        obtain ⟨v, H', os, bare, un, hok', r', b, q', hb'⟩ := h
        subst q'
        obtain rfl : u = Value.ref b := r'
        obtain ⟨_, its, n, rr, e⟩ := hok' b _ hb'
        refine ⟨⟨b, its, n, rfl, e, ints_of_vals rr⟩, OldK.of_keep fun b o e => ?_, os, bare⟩
        cases q : H b with
        | none => exact un.keep b o e q (by intro z; exact absurd (show b ∈ ([] : List Addr) from z) (by simp)) (by simp)
        | some u =>
          rcases hO b with z | ⟨ob, xs, z⟩
          · rw [q] at z; cases z
          · have z2 := un.frzs b ob _ z
            obtain ⟨e1, _⟩ := hok b _ z
            obtain ⟨e2, _⟩ := hok' b _ z2
            rw [e] at e1; cases e1
            exact e2
  cases hk : K.lookup a with
  | some o =>
    have e := KX a o hk
    rw [ha] at e
    cases e
    refine core (fun _ => none) (fun _ => .inl rfl) (.inr ⟨_, vs.toArray, _, hk, rfl, rfl, rfl, by rw [List.size_toArray, lenV]; exact hl, by simpa using rv⟩) (fun b u z => by have z' : (none : Option HO) = some u := z; cases z') (fun b z => absurd rfl z) fun z => absurd rfl z
  | none =>
    refine core (fun b => if b = a then some (.frz { cls := .type "list", data := .seq vs.toArray } (.lst (ns.map V.int))) else none) (fun b => ?_) (.inl (.inr ⟨{ cls := .type "list", data := .seq vs.toArray }, if_pos rfl⟩)) (fun b u z => ?_) (fun b z => ?_) fun _ => hk
    · by_cases hb : b = a
      · exact .inr ⟨_, _, if_pos hb⟩
      · exact .inl (if_neg hb)
    · by_cases hb : b = a
      · have z' := (if_pos hb).symm.trans z
        cases z'
        subst hb
        exact ⟨ha, by rw [List.length_map]; exact hl, vs, _, rv, ha⟩
      · have z' := (if_neg hb).symm.trans z
        cases z'
    · by_cases hb : b = a
      · exact hb
      · exact absurd (if_neg hb) z
theorem reads_ints {cl : Str → Option Addr} {h : Heap} : ∀ {vs : List Value} {ns : List Int}, IntsAre vs ns → PySem.W.ReadsAllW [] cl h vs (ns.map PySem.W.WData.int) []
  | _, _, .nil => .nil
  | _, _, .cons n t r => .cons (as := []) (bs := []) (.int n t) (reads_ints r)
theorem walk_spec {prog : Program} {name : Str} {least most l2 m2 : Nat} {lo hi lo2 hi2 : Int} {asked : List Int → Bool} {f : List Int → List Int} {k : Nat} {q : Program} {loose : List Str} {XP : (Str → Option Value) → Heap → Prop}
    {YP : World → Heap → Prop} {d : DefRec} {K : Params → PySem.W.Frag} {CX : CXT} {sp : PySem.W.Frag → Sp} {x : Str}
    (hn2 : most ≤ sizeLine) (hdf : d.params.defaults = []) (hr : Room k callerA)
    (hY : ∀ (w : World) (h : Heap), YP w h → (K w.params).In h)
    (F : ∀ (w : World) (mg : Str → Option Value) (fa : Addr) (h : Heap), (K w.params).In h → h.Ns mainGlobals mg → mg d.name = some (.ref fa) →
      ∃ fd : FuncData, (∀ (s : Shared) (u : Value), BindsTo s fd ⟨[u], []⟩ [(x, u)]) ∧
        ∀ base : Heap, (K w.params).In base → base.Ns mainGlobals mg → FnOk prog w (K w.params) mg base CX k fa fd [x] (sp (K w.params)))
    (hsp : ∀ (K : PySem.W.Frag) (H : Hp) (a : Addr) (ns : List Int), ns.length ≤ most → (∀ z ∈ ns, lo ≤ z ∧ z ≤ hi) → asked ns = true → Only H → SqL K H a (ns.map V.int) →
      sp K [.ref a] H (fun v H' => ∃ b, v = .ref b ∧ H' b = some (.lst ((f ns).map V.int))) fun _ _ _ => False)
    (hCX : ∀ (H : Hp) (s : Shared) (e : Value) (s' : Shared), CX [] H s (fun _ _ _ => False) e s' → False) :
    PySem.W.WalkOS q loose XP YP (PySem.W.OpenSpec.mk prog name [.list least most (.int lo hi)] (.list l2 m2 (.int lo2 hi2)) asked f) d [] (fun f vs => PySem.call f vs) := by
  intro w s₀ s₁ mg mb G Y fa o pm cd doc dV kV ho hd hcd hD hmg hg args vals as hpre hlay hrd hwl hlo
  obtain rfl : dV = .none := PySem.W.Dflts.none hD hdf
  obtain rfl : kV = .none := PySem.W.Dflts.noKw hD
  obtain ⟨⟨ns, u⟩, hdec, hask⟩ := PySem.W.os_pre_some hpre
  cases u
  obtain ⟨ea, hin⟩ := PySem.W.Codec.encAll_of_decAll _ _ _ hdec
  have ea' : args = [PySem.W.WData.list (ns.map PySem.W.WData.int)] := ea
  subst ea'
  have hin' : (PySem.W.Codec.inList least most (PySem.W.Codec.inInt lo hi) ns && true) = true := hin
  have hin2 := (PySem.W.Codec.and_of hin').1
  have hin3 : (PySem.W.Codec.inNat least most ns.length && ns.all (PySem.W.Codec.inInt lo hi)) = true := hin2
  have hlen := (PySem.W.Codec.inNat_iff.mp (PySem.W.Codec.and_of hin3).1).2
  have hall : ∀ z ∈ ns, lo ≤ z ∧ z ≤ hi := fun z hz => PySem.W.Codec.inInt_iff.mp (List.all_eq_true.mp (PySem.W.Codec.and_of hin3).2 z hz)
  have hask' : asked ns = true := hask
  have KX := hY w _ Y
  obtain ⟨fd, hb, hF⟩ := F w mg fa _ KX G.T.g hmg
  cases hwl with
  | cons w1 w2 =>
    cases w2
    cases w1 with
    | @list a vs _ hobj hw =>
      refine PySem.W.enter_call (codeAny_mono (spec_call (res := f ns) KX G.T.g G.T.b G.T.builtins G.T.nolimit hg hobj (Att.ints_of_wellAll ns _ hw) (Nat.le_trans hlen hn2) hr hF hb (fun H hO hS => hsp _ H _ ns hlen hall hask' hO hS) fun H e s' => hCX H s₁ e s') fun r s' hq => ?_)
      obtain ⟨⟨b, ws, n, rfl, hget, hints⟩, h2, h3, h4⟩ := hq
      refine ⟨.inl ⟨.ref b, .list ((f ns).map PySem.W.WData.int), [b], rfl, fun _ => rfl, .list hget rfl rfl (by rw [List.toList_toArray]; exact reads_ints hints), ?_, fun z => absurd z Bool.false_ne_true⟩, h2, h3, h4⟩
      exact PySem.W.os_post (r := PySem.W.OpenSpec.mk prog name [.list least most (.int lo hi)] (.list l2 m2 (.int lo2 hi2)) asked f) hdec (PySem.W.same_self _)
end My
namespace My
open PySem L2
def top (i : Nat) : Stmt := PySem.Challenge.pw_idlehosts_s01_answers.main.body.getD i (.Pass ⟨0, 0, 0, 0⟩)
abbrev s_four_bytes : Stmt := top 10
abbrev s_number_at : Stmt := top 11
abbrev s_work_message : Stmt := top 12
abbrev s_token_message : Stmt := top 13
abbrev s_marker_message : Stmt := top 14
abbrev s_record_message : Stmt := top 15
abbrev s_want_message : Stmt := top 16
abbrev s_grant_message : Stmt := top 17
abbrev s_probe_message : Stmt := top 18
abbrev s_record_bytes : Stmt := top 19
abbrev s_end_of_row : Stmt := top 24
abbrev s_end_of_works : Stmt := top 25
abbrev s_is_right_record : Stmt := top 26
abbrev s_is_right : Stmt := top 27
abbrev s_message_comes : Stmt := top 28
abbrev s_dt_begin : Stmt := top 39
abbrev s_dt_state : Stmt := top 40
abbrev s_dt_send : Stmt := top 41
abbrev s_dt_idle : Stmt := top 42
abbrev s_dt_watch : Stmt := top 43
abbrev s_dt_snapshot : Stmt := top 44
abbrev s_dt_want : Stmt := top 45
abbrev s_dt_grant : Stmt := top 46
abbrev s_dt_suspect : Stmt := top 47
abbrev s_dt_message : Stmt := top 48
abbrev s_take_first : Stmt := top 49
abbrev s_dt_output : Stmt := top 50
abbrev s_dt_take : Stmt := top 51
abbrev s_dt_cut : Stmt := top 52
abbrev s_as_bits : Stmt := top 53
abbrev s_dt_told : Stmt := top 54
abbrev s_Token_init : Stmt := inClass (top 58) 0
abbrev s_Recording_init : Stmt := inClass (top 59) 0
abbrev s_Recording_put_work : Stmt := inClass (top 59) 1
abbrev s_Host_init : Stmt := inClass (top 60) 0
abbrev s_Host_begin : Stmt := inClass (top 60) 1
abbrev s_Host_is_busy : Stmt := inClass (top 60) 2
abbrev s_Host_is_other : Stmt := inClass (top 60) 3
abbrev s_Host_send : Stmt := inClass (top 60) 4
abbrev s_Host_send_to_all : Stmt := inClass (top 60) 5
abbrev s_Host_send_work : Stmt := inClass (top 60) 6
abbrev s_Host_work_comes : Stmt := inClass (top 60) 7
abbrev s_Host_become_idle : Stmt := inClass (top 60) 8
abbrev s_Host_watch : Stmt := inClass (top 60) 9
abbrev s_Host_token_comes : Stmt := inClass (top 60) 10
abbrev s_Host_pass_token : Stmt := inClass (top 60) 11
abbrev s_Host_last_cut_is_whole : Stmt := inClass (top 60) 12
abbrev s_Host_begin_cut : Stmt := inClass (top 60) 13
abbrev s_Host_begin_recording : Stmt := inClass (top 60) 14
abbrev s_Host_marker_comes : Stmt := inClass (top 60) 15
abbrev s_Host_end_recording_if_done : Stmt := inClass (top 60) 16
abbrev s_Host_record_comes : Stmt := inClass (top 60) 17
abbrev s_Host_cut_bytes : Stmt := inClass (top 60) 18
abbrev s_Host_is_blocked : Stmt := inClass (top 60) 19
abbrev s_Host_want : Stmt := inClass (top 60) 20
abbrev s_Host_want_comes : Stmt := inClass (top 60) 21
abbrev s_Host_grant : Stmt := inClass (top 60) 22
abbrev s_Host_grant_comes : Stmt := inClass (top 60) 23
abbrev s_Host_suspect : Stmt := inClass (top 60) 24
abbrev s_Host_send_probe : Stmt := inClass (top 60) 25
abbrev s_Host_probe_comes : Stmt := inClass (top 60) 26
abbrev s_Reader_init : Stmt := inClass (top 77) 0
abbrev s_Reader_has_more : Stmt := inClass (top 77) 1
abbrev s_Reader_take_number : Stmt := inClass (top 77) 2
abbrev s_Reader_take_row : Stmt := inClass (top 77) 3
abbrev s_answer_one : Stmt := top 78
abbrev s_answers_on : Stmt := top 79
abbrev s_answers : Stmt := top 80
theorem sc_four_bytes : FnScope ["number"] ["number"] (defScope s_four_bytes) := ⟨rfl, rfl, rfl, by decide +kernel, rfl, by decide +kernel, by decide +kernel⟩
theorem sc_number_at : FnScope ["message", "at"] ["message", "at"] (defScope s_number_at) := ⟨rfl, rfl, rfl, by decide +kernel, rfl, by decide +kernel, by decide +kernel⟩
theorem sc_work_message : FnScope ["row"] ["row"] (defScope s_work_message) := ⟨rfl, rfl, rfl, by decide +kernel, rfl, by decide +kernel, by decide +kernel⟩
theorem sc_token_message : FnScope ["black", "total"] ["black", "total"] (defScope s_token_message) := ⟨rfl, rfl, rfl, by decide +kernel, rfl, by decide +kernel, by decide +kernel⟩
theorem sc_marker_message : FnScope ["who", "number"] ["who", "number"] (defScope s_marker_message) := ⟨rfl, rfl, rfl, by decide +kernel, rfl, by decide +kernel, by decide +kernel⟩
theorem sc_record_message : FnScope ["number", "record"] ["number", "record"] (defScope s_record_message) := ⟨rfl, rfl, rfl, by decide +kernel, rfl, by decide +kernel, by decide +kernel⟩
theorem sc_want_message : FnScope [] [] (defScope s_want_message) := ⟨rfl, rfl, rfl, by decide +kernel, rfl, by decide +kernel, by decide +kernel⟩
theorem sc_grant_message : FnScope [] [] (defScope s_grant_message) := ⟨rfl, rfl, rfl, by decide +kernel, rfl, by decide +kernel, by decide +kernel⟩
theorem sc_probe_message : FnScope ["who", "number"] ["who", "number"] (defScope s_probe_message) := ⟨rfl, rfl, rfl, by decide +kernel, rfl, by decide +kernel, by decide +kernel⟩
theorem sc_record_bytes : FnScope ["too_much", "state", "works", "record", "work"] ["too_much", "state", "works"] (defScope s_record_bytes) := ⟨rfl, rfl, rfl, by decide +kernel, rfl, by decide +kernel, by decide +kernel⟩
theorem sc_end_of_row : FnScope ["message", "at", "end"] ["message", "at"] (defScope s_end_of_row) := ⟨rfl, rfl, rfl, by decide +kernel, rfl, by decide +kernel, by decide +kernel⟩
theorem sc_end_of_works : FnScope ["message", "at", "n", "left", "end"] ["message", "at", "n"] (defScope s_end_of_works) := ⟨rfl, rfl, rfl, by decide +kernel, rfl, by decide +kernel, by decide +kernel⟩
theorem sc_is_right_record : FnScope ["message", "n", "at"] ["message", "n"] (defScope s_is_right_record) := ⟨rfl, rfl, rfl, by decide +kernel, rfl, by decide +kernel, by decide +kernel⟩
theorem sc_is_right : FnScope ["message", "n", "kind"] ["message", "n"] (defScope s_is_right) := ⟨rfl, rfl, rfl, by decide +kernel, rfl, by decide +kernel, by decide +kernel⟩
theorem sc_message_comes : FnScope ["host", "sender", "message", "kind"] ["host", "sender", "message"] (defScope s_message_comes) := ⟨rfl, rfl, rfl, by decide +kernel, rfl, by decide +kernel, by decide +kernel⟩
theorem sc_dt_begin : FnScope ["host", "me", "n", "active"] ["host", "me", "n", "active"] (defScope s_dt_begin) := ⟨rfl, rfl, rfl, by decide +kernel, rfl, by decide +kernel, by decide +kernel⟩
theorem sc_dt_state : FnScope ["host", "row"] ["host", "row"] (defScope s_dt_state) := ⟨rfl, rfl, rfl, by decide +kernel, rfl, by decide +kernel, by decide +kernel⟩
theorem sc_dt_send : FnScope ["host", "to", "row"] ["host", "to", "row"] (defScope s_dt_send) := ⟨rfl, rfl, rfl, by decide +kernel, rfl, by decide +kernel, by decide +kernel⟩
theorem sc_dt_idle : FnScope ["host"] ["host"] (defScope s_dt_idle) := ⟨rfl, rfl, rfl, by decide +kernel, rfl, by decide +kernel, by decide +kernel⟩
theorem sc_dt_watch : FnScope ["host"] ["host"] (defScope s_dt_watch) := ⟨rfl, rfl, rfl, by decide +kernel, rfl, by decide +kernel, by decide +kernel⟩
theorem sc_dt_snapshot : FnScope ["host"] ["host"] (defScope s_dt_snapshot) := ⟨rfl, rfl, rfl, by decide +kernel, rfl, by decide +kernel, by decide +kernel⟩
theorem sc_dt_want : FnScope ["host", "who"] ["host", "who"] (defScope s_dt_want) := ⟨rfl, rfl, rfl, by decide +kernel, rfl, by decide +kernel, by decide +kernel⟩
theorem sc_dt_grant : FnScope ["host", "who"] ["host", "who"] (defScope s_dt_grant) := ⟨rfl, rfl, rfl, by decide +kernel, rfl, by decide +kernel, by decide +kernel⟩
theorem sc_dt_suspect : FnScope ["host"] ["host"] (defScope s_dt_suspect) := ⟨rfl, rfl, rfl, by decide +kernel, rfl, by decide +kernel, by decide +kernel⟩
theorem sc_dt_message : FnScope ["host", "sender", "row"] ["host", "sender", "row"] (defScope s_dt_message) := ⟨rfl, rfl, rfl, by decide +kernel, rfl, by decide +kernel, by decide +kernel⟩
theorem sc_take_first : FnScope ["pairs", "most", "host_number", "row"] ["pairs", "most"] (defScope s_take_first) := ⟨rfl, rfl, rfl, by decide +kernel, rfl, by decide +kernel, by decide +kernel⟩
theorem sc_dt_output : FnScope ["host", "most"] ["host", "most"] (defScope s_dt_output) := ⟨rfl, rfl, rfl, by decide +kernel, rfl, by decide +kernel, by decide +kernel⟩
theorem sc_dt_take : FnScope ["host", "most"] ["host", "most"] (defScope s_dt_take) := ⟨rfl, rfl, rfl, by decide +kernel, rfl, by decide +kernel, by decide +kernel⟩
theorem sc_dt_cut : FnScope ["host", "most", "row"] ["host", "most"] (defScope s_dt_cut) := ⟨rfl, rfl, rfl, by decide +kernel, rfl, by decide +kernel, by decide +kernel⟩
theorem sc_as_bits : FnScope ["marks", "bits", "mark"] ["marks"] (defScope s_as_bits) := ⟨rfl, rfl, rfl, by decide +kernel, rfl, by decide +kernel, by decide +kernel⟩
theorem sc_dt_told : FnScope ["host", "states", "counts", "state"] ["host"] (defScope s_dt_told) := ⟨rfl, rfl, rfl, by decide +kernel, rfl, by decide +kernel, by decide +kernel⟩
theorem sc_Token_init : FnScope ["self", "black", "total"] ["self", "black", "total"] (defScope s_Token_init) := ⟨rfl, rfl, rfl, by decide +kernel, rfl, by decide +kernel, by decide +kernel⟩
theorem sc_Recording_init : FnScope ["self", "number", "state", "ways"] ["self", "number", "state", "ways"] (defScope s_Recording_init) := ⟨rfl, rfl, rfl, by decide +kernel, rfl, by decide +kernel, by decide +kernel⟩
theorem sc_Recording_put_work : FnScope ["self", "sender", "row"] ["self", "sender", "row"] (defScope s_Recording_put_work) := ⟨rfl, rfl, rfl, by decide +kernel, rfl, by decide +kernel, by decide +kernel⟩
theorem sc_Host_init : FnScope ["self"] ["self"] (defScope s_Host_init) := ⟨rfl, rfl, rfl, by decide +kernel, rfl, by decide +kernel, by decide +kernel⟩
theorem sc_Host_begin : FnScope ["self", "me", "n", "active", "host"] ["self", "me", "n", "active"] (defScope s_Host_begin) := ⟨rfl, rfl, rfl, by decide +kernel, rfl, by decide +kernel, by decide +kernel⟩
theorem sc_Host_is_busy : FnScope ["self"] ["self"] (defScope s_Host_is_busy) := ⟨rfl, rfl, rfl, by decide +kernel, rfl, by decide +kernel, by decide +kernel⟩
theorem sc_Host_is_other : FnScope ["self", "who"] ["self", "who"] (defScope s_Host_is_other) := ⟨rfl, rfl, rfl, by decide +kernel, rfl, by decide +kernel, by decide +kernel⟩
theorem sc_Host_send : FnScope ["self", "to", "message"] ["self", "to", "message"] (defScope s_Host_send) := ⟨rfl, rfl, rfl, by decide +kernel, rfl, by decide +kernel, by decide +kernel⟩
theorem sc_Host_send_to_all : FnScope ["self", "message", "to"] ["self", "message"] (defScope s_Host_send_to_all) := ⟨rfl, rfl, rfl, by decide +kernel, rfl, by decide +kernel, by decide +kernel⟩
theorem sc_Host_send_work : FnScope ["self", "to", "row"] ["self", "to", "row"] (defScope s_Host_send_work) := ⟨rfl, rfl, rfl, by decide +kernel, rfl, by decide +kernel, by decide +kernel⟩
theorem sc_Host_work_comes : FnScope ["self", "sender", "row", "recording"] ["self", "sender", "row"] (defScope s_Host_work_comes) := ⟨rfl, rfl, rfl, by decide +kernel, rfl, by decide +kernel, by decide +kernel⟩
theorem sc_Host_become_idle : FnScope ["self"] ["self"] (defScope s_Host_become_idle) := ⟨rfl, rfl, rfl, by decide +kernel, rfl, by decide +kernel, by decide +kernel⟩
theorem sc_Host_watch : FnScope ["self"] ["self"] (defScope s_Host_watch) := ⟨rfl, rfl, rfl, by decide +kernel, rfl, by decide +kernel, by decide +kernel⟩
theorem sc_Host_token_comes : FnScope ["self", "black", "total"] ["self", "black", "total"] (defScope s_Host_token_comes) := ⟨rfl, rfl, rfl, by decide +kernel, rfl, by decide +kernel, by decide +kernel⟩
theorem sc_Host_pass_token : FnScope ["self", "token", "black", "total"] ["self"] (defScope s_Host_pass_token) := ⟨rfl, rfl, rfl, by decide +kernel, rfl, by decide +kernel, by decide +kernel⟩
theorem sc_Host_last_cut_is_whole : FnScope ["self"] ["self"] (defScope s_Host_last_cut_is_whole) := ⟨rfl, rfl, rfl, by decide +kernel, rfl, by decide +kernel, by decide +kernel⟩
theorem sc_Host_begin_cut : FnScope ["self"] ["self"] (defScope s_Host_begin_cut) := ⟨rfl, rfl, rfl, by decide +kernel, rfl, by decide +kernel, by decide +kernel⟩
theorem sc_Host_begin_recording : FnScope ["self", "who", "number", "closed", "ways", "host"] ["self", "who", "number", "closed"] (defScope s_Host_begin_recording) := ⟨rfl, rfl, rfl, by decide +kernel, rfl, by decide +kernel, by decide +kernel⟩
theorem sc_Host_marker_comes : FnScope ["self", "sender", "who", "number", "recording"] ["self", "sender", "who", "number"] (defScope s_Host_marker_comes) := ⟨rfl, rfl, rfl, by decide +kernel, rfl, by decide +kernel, by decide +kernel⟩
theorem sc_Host_end_recording_if_done : FnScope ["self", "who", "recording", "record"] ["self", "who"] (defScope s_Host_end_recording_if_done) := ⟨rfl, rfl, rfl, by decide +kernel, rfl, by decide +kernel, by decide +kernel⟩
theorem sc_Host_record_comes : FnScope ["self", "sender", "number", "record"] ["self", "sender", "number", "record"] (defScope s_Host_record_comes) := ⟨rfl, rfl, rfl, by decide +kernel, rfl, by decide +kernel, by decide +kernel⟩
theorem sc_Host_cut_bytes : FnScope ["self", "row", "host"] ["self"] (defScope s_Host_cut_bytes) := ⟨rfl, rfl, rfl, by decide +kernel, rfl, by decide +kernel, by decide +kernel⟩
theorem sc_Host_is_blocked : FnScope ["self"] ["self"] (defScope s_Host_is_blocked) := ⟨rfl, rfl, rfl, by decide +kernel, rfl, by decide +kernel, by decide +kernel⟩
theorem sc_Host_want : FnScope ["self", "who"] ["self", "who"] (defScope s_Host_want) := ⟨rfl, rfl, rfl, by decide +kernel, rfl, by decide +kernel, by decide +kernel⟩
theorem sc_Host_want_comes : FnScope ["self", "sender"] ["self", "sender"] (defScope s_Host_want_comes) := ⟨rfl, rfl, rfl, by decide +kernel, rfl, by decide +kernel, by decide +kernel⟩
theorem sc_Host_grant : FnScope ["self", "who"] ["self", "who"] (defScope s_Host_grant) := ⟨rfl, rfl, rfl, by decide +kernel, rfl, by decide +kernel, by decide +kernel⟩
theorem sc_Host_grant_comes : FnScope ["self", "sender"] ["self", "sender"] (defScope s_Host_grant_comes) := ⟨rfl, rfl, rfl, by decide +kernel, rfl, by decide +kernel, by decide +kernel⟩
theorem sc_Host_suspect : FnScope ["self"] ["self"] (defScope s_Host_suspect) := ⟨rfl, rfl, rfl, by decide +kernel, rfl, by decide +kernel, by decide +kernel⟩
theorem sc_Host_send_probe : FnScope ["self", "who", "number", "to"] ["self", "who", "number"] (defScope s_Host_send_probe) := ⟨rfl, rfl, rfl, by decide +kernel, rfl, by decide +kernel, by decide +kernel⟩
theorem sc_Host_probe_comes : FnScope ["self", "sender", "who", "number"] ["self", "sender", "who", "number"] (defScope s_Host_probe_comes) := ⟨rfl, rfl, rfl, by decide +kernel, rfl, by decide +kernel, by decide +kernel⟩
theorem sc_Reader_init : FnScope ["self", "numbers"] ["self", "numbers"] (defScope s_Reader_init) := ⟨rfl, rfl, rfl, by decide +kernel, rfl, by decide +kernel, by decide +kernel⟩
theorem sc_Reader_has_more : FnScope ["self"] ["self"] (defScope s_Reader_has_more) := ⟨rfl, rfl, rfl, by decide +kernel, rfl, by decide +kernel, by decide +kernel⟩
theorem sc_Reader_take_number : FnScope ["self", "number"] ["self"] (defScope s_Reader_take_number) := ⟨rfl, rfl, rfl, by decide +kernel, rfl, by decide +kernel, by decide +kernel⟩
theorem sc_Reader_take_row : FnScope ["self", "size", "row"] ["self"] (defScope s_Reader_take_row) := ⟨rfl, rfl, rfl, by decide +kernel, rfl, by decide +kernel, by decide +kernel⟩
theorem sc_answer_one : FnScope ["host", "reader", "call"] ["host", "reader"] (defScope s_answer_one) := ⟨rfl, rfl, rfl, by decide +kernel, rfl, by decide +kernel, by decide +kernel⟩
theorem sc_answers_on : FnScope ["host", "calls", "reader", "told", "answer"] ["host", "calls"] (defScope s_answers_on) := ⟨rfl, rfl, rfl, by decide +kernel, rfl, by decide +kernel, by decide +kernel⟩
theorem sc_answers : FnScope ["calls"] ["calls"] (defScope s_answers) := ⟨rfl, rfl, rfl, by decide +kernel, rfl, by decide +kernel, by decide +kernel⟩
structure GDef (K : PySem.W.Frag) (mg : Str → Option Value) (x : Str) (st : Stmt) (ps : List Str) (f : Addr) (fd : FuncData) : Prop where
  fn : Fun K x x st f fd
  bd : Binds K fd ps []
  mg : mg x = some (.ref f)
structure MDef (K : PySem.W.Frag) (C : Addr) (m qual : Str) (st : Stmt) (ps : List Str) (f : Addr) (fd : FuncData) : Prop where
  fn : Fun K m qual st f fd
  bd : Binds K fd ps []
  mt : Meth K C m f
structure Adr where
  c_Token : Addr
  c_Recording : Addr
  c_Host : Addr
  c_Reader : Addr
  f_four_bytes : Addr
  d_four_bytes : FuncData
  f_number_at : Addr
  d_number_at : FuncData
  f_work_message : Addr
  d_work_message : FuncData
  f_token_message : Addr
  d_token_message : FuncData
  f_marker_message : Addr
  d_marker_message : FuncData
  f_record_message : Addr
  d_record_message : FuncData
  f_want_message : Addr
  d_want_message : FuncData
  f_grant_message : Addr
  d_grant_message : FuncData
  f_probe_message : Addr
  d_probe_message : FuncData
  f_record_bytes : Addr
  d_record_bytes : FuncData
  f_end_of_row : Addr
  d_end_of_row : FuncData
  f_end_of_works : Addr
  d_end_of_works : FuncData
  f_is_right_record : Addr
  d_is_right_record : FuncData
  f_is_right : Addr
  d_is_right : FuncData
  f_message_comes : Addr
  d_message_comes : FuncData
  f_dt_begin : Addr
  d_dt_begin : FuncData
  f_dt_state : Addr
  d_dt_state : FuncData
  f_dt_send : Addr
  d_dt_send : FuncData
  f_dt_idle : Addr
  d_dt_idle : FuncData
  f_dt_watch : Addr
  d_dt_watch : FuncData
  f_dt_snapshot : Addr
  d_dt_snapshot : FuncData
  f_dt_want : Addr
  d_dt_want : FuncData
  f_dt_grant : Addr
  d_dt_grant : FuncData
  f_dt_suspect : Addr
  d_dt_suspect : FuncData
  f_dt_message : Addr
  d_dt_message : FuncData
  f_take_first : Addr
  d_take_first : FuncData
  f_dt_output : Addr
  d_dt_output : FuncData
  f_dt_take : Addr
  d_dt_take : FuncData
  f_dt_cut : Addr
  d_dt_cut : FuncData
  f_as_bits : Addr
  d_as_bits : FuncData
  f_dt_told : Addr
  d_dt_told : FuncData
  f_Token_init : Addr
  d_Token_init : FuncData
  f_Recording_init : Addr
  d_Recording_init : FuncData
  f_Recording_put_work : Addr
  d_Recording_put_work : FuncData
  f_Host_init : Addr
  d_Host_init : FuncData
  f_Host_begin : Addr
  d_Host_begin : FuncData
  f_Host_is_busy : Addr
  d_Host_is_busy : FuncData
  f_Host_is_other : Addr
  d_Host_is_other : FuncData
  f_Host_send : Addr
  d_Host_send : FuncData
  f_Host_send_to_all : Addr
  d_Host_send_to_all : FuncData
  f_Host_send_work : Addr
  d_Host_send_work : FuncData
  f_Host_work_comes : Addr
  d_Host_work_comes : FuncData
  f_Host_become_idle : Addr
  d_Host_become_idle : FuncData
  f_Host_watch : Addr
  d_Host_watch : FuncData
  f_Host_token_comes : Addr
  d_Host_token_comes : FuncData
  f_Host_pass_token : Addr
  d_Host_pass_token : FuncData
  f_Host_last_cut_is_whole : Addr
  d_Host_last_cut_is_whole : FuncData
  f_Host_begin_cut : Addr
  d_Host_begin_cut : FuncData
  f_Host_begin_recording : Addr
  d_Host_begin_recording : FuncData
  f_Host_marker_comes : Addr
  d_Host_marker_comes : FuncData
  f_Host_end_recording_if_done : Addr
  d_Host_end_recording_if_done : FuncData
  f_Host_record_comes : Addr
  d_Host_record_comes : FuncData
  f_Host_cut_bytes : Addr
  d_Host_cut_bytes : FuncData
  f_Host_is_blocked : Addr
  d_Host_is_blocked : FuncData
  f_Host_want : Addr
  d_Host_want : FuncData
  f_Host_want_comes : Addr
  d_Host_want_comes : FuncData
  f_Host_grant : Addr
  d_Host_grant : FuncData
  f_Host_grant_comes : Addr
  d_Host_grant_comes : FuncData
  f_Host_suspect : Addr
  d_Host_suspect : FuncData
  f_Host_send_probe : Addr
  d_Host_send_probe : FuncData
  f_Host_probe_comes : Addr
  d_Host_probe_comes : FuncData
  f_Reader_init : Addr
  d_Reader_init : FuncData
  f_Reader_has_more : Addr
  d_Reader_has_more : FuncData
  f_Reader_take_number : Addr
  d_Reader_take_number : FuncData
  f_Reader_take_row : Addr
  d_Reader_take_row : FuncData
  f_answer_one : Addr
  d_answer_one : FuncData
  f_answers_on : Addr
  d_answers_on : FuncData
  f_answers : Addr
  d_answers : FuncData
  t_WORK : Tok
  t_TOKEN : Tok
  t_MARKER : Tok
  t_RECORD : Tok
  t_WANT_messages : Tok
  t_GRANT_messages : Tok
  t_PROBE : Tok
  t_MOST_BYTES : Tok
  t_MOST_WORKS : Tok
  t_SIX_BYTES : Tok
  t_TOO_MUCH_AT : Tok
  t_STATE_AT : Tok
  t_NO_ROOM : Tok
  t_WRONG : Tok
  t_NOT_NOW : Tok
  t_TOO_MANY : Tok
  t_MOST_HOSTS : Tok
  t_MOST_MESSAGE : Tok
  t_MOST_WAITING : Tok
  t_LAST_NUMBER : Tok
  t_TOLD_BELOW : Tok
  t_MOST_OUTGOING : Tok
  t_GOES_ROUND_AT : Tok
  t_BEGIN : Tok
  t_STATE : Tok
  t_SEND : Tok
  t_IDLE : Tok
  t_WATCH : Tok
  t_SNAPSHOT : Tok
  t_WANT_host : Tok
  t_GRANT_host : Tok
  t_SUSPECT : Tok
  t_MESSAGE : Tok
  t_OUTPUT : Tok
  t_TAKE : Tok
  t_CUT : Tok
  t_TOLD : Tok
structure Txt (K : PySem.W.Frag) (mg : Str → Option Value) (A : Adr) : Prop where
  cl_Token : Cls K A.c_Token
  mg_Token : mg "Token" = some (.ref A.c_Token)
  mk_Token : Mk K A.c_Token A.f_Token_init
  na_Token_black : NoAttr K A.c_Token "black"
  na_Token_total : NoAttr K A.c_Token "total"
  cl_Recording : Cls K A.c_Recording
  mg_Recording : mg "Recording" = some (.ref A.c_Recording)
  mk_Recording : Mk K A.c_Recording A.f_Recording_init
  na_Recording_number : NoAttr K A.c_Recording "number"
  na_Recording_state : NoAttr K A.c_Recording "state"
  na_Recording_ways : NoAttr K A.c_Recording "ways"
  na_Recording_works : NoAttr K A.c_Recording "works"
  na_Recording_too_much : NoAttr K A.c_Recording "too_much"
  cl_Host : Cls K A.c_Host
  mg_Host : mg "Host" = some (.ref A.c_Host)
  mk_Host : Mk K A.c_Host A.f_Host_init
  na_Host_me : NoAttr K A.c_Host "me"
  na_Host_n : NoAttr K A.c_Host "n"
  na_Host_active : NoAttr K A.c_Host "active"
  na_Host_state : NoAttr K A.c_Host "state"
  na_Host_outgoing : NoAttr K A.c_Host "outgoing"
  na_Host_works : NoAttr K A.c_Host "works"
  na_Host_balance : NoAttr K A.c_Host "balance"
  na_Host_black : NoAttr K A.c_Host "black"
  na_Host_watching : NoAttr K A.c_Host "watching"
  na_Host_token : NoAttr K A.c_Host "token"
  na_Host_found : NoAttr K A.c_Host "found"
  na_Host_cut_number : NoAttr K A.c_Host "cut_number"
  na_Host_records : NoAttr K A.c_Host "records"
  na_Host_recordings : NoAttr K A.c_Host "recordings"
  na_Host_waits : NoAttr K A.c_Host "waits"
  na_Host_owes : NoAttr K A.c_Host "owes"
  na_Host_suspect_number : NoAttr K A.c_Host "suspect_number"
  na_Host_counted : NoAttr K A.c_Host "counted"
  na_Host_locked : NoAttr K A.c_Host "locked"
  cl_Reader : Cls K A.c_Reader
  mg_Reader : mg "Reader" = some (.ref A.c_Reader)
  mk_Reader : Mk K A.c_Reader A.f_Reader_init
  na_Reader_numbers : NoAttr K A.c_Reader "numbers"
  na_Reader_at : NoAttr K A.c_Reader "at"
  g_four_bytes : GDef K mg "four_bytes" s_four_bytes ["number"] A.f_four_bytes A.d_four_bytes
  g_number_at : GDef K mg "number_at" s_number_at ["message", "at"] A.f_number_at A.d_number_at
  g_work_message : GDef K mg "work_message" s_work_message ["row"] A.f_work_message A.d_work_message
  g_token_message : GDef K mg "token_message" s_token_message ["black", "total"] A.f_token_message A.d_token_message
  g_marker_message : GDef K mg "marker_message" s_marker_message ["who", "number"] A.f_marker_message A.d_marker_message
  g_record_message : GDef K mg "record_message" s_record_message ["number", "record"] A.f_record_message A.d_record_message
  g_want_message : GDef K mg "want_message" s_want_message [] A.f_want_message A.d_want_message
  g_grant_message : GDef K mg "grant_message" s_grant_message [] A.f_grant_message A.d_grant_message
  g_probe_message : GDef K mg "probe_message" s_probe_message ["who", "number"] A.f_probe_message A.d_probe_message
  g_record_bytes : GDef K mg "record_bytes" s_record_bytes ["too_much", "state", "works"] A.f_record_bytes A.d_record_bytes
  g_end_of_row : GDef K mg "end_of_row" s_end_of_row ["message", "at"] A.f_end_of_row A.d_end_of_row
  g_end_of_works : GDef K mg "end_of_works" s_end_of_works ["message", "at", "n"] A.f_end_of_works A.d_end_of_works
  g_is_right_record : GDef K mg "is_right_record" s_is_right_record ["message", "n"] A.f_is_right_record A.d_is_right_record
  g_is_right : GDef K mg "is_right" s_is_right ["message", "n"] A.f_is_right A.d_is_right
  g_message_comes : GDef K mg "message_comes" s_message_comes ["host", "sender", "message"] A.f_message_comes A.d_message_comes
  g_dt_begin : GDef K mg "dt_begin" s_dt_begin ["host", "me", "n", "active"] A.f_dt_begin A.d_dt_begin
  g_dt_state : GDef K mg "dt_state" s_dt_state ["host", "row"] A.f_dt_state A.d_dt_state
  g_dt_send : GDef K mg "dt_send" s_dt_send ["host", "to", "row"] A.f_dt_send A.d_dt_send
  g_dt_idle : GDef K mg "dt_idle" s_dt_idle ["host"] A.f_dt_idle A.d_dt_idle
  g_dt_watch : GDef K mg "dt_watch" s_dt_watch ["host"] A.f_dt_watch A.d_dt_watch
  g_dt_snapshot : GDef K mg "dt_snapshot" s_dt_snapshot ["host"] A.f_dt_snapshot A.d_dt_snapshot
  g_dt_want : GDef K mg "dt_want" s_dt_want ["host", "who"] A.f_dt_want A.d_dt_want
  g_dt_grant : GDef K mg "dt_grant" s_dt_grant ["host", "who"] A.f_dt_grant A.d_dt_grant
  g_dt_suspect : GDef K mg "dt_suspect" s_dt_suspect ["host"] A.f_dt_suspect A.d_dt_suspect
  g_dt_message : GDef K mg "dt_message" s_dt_message ["host", "sender", "row"] A.f_dt_message A.d_dt_message
  g_take_first : GDef K mg "take_first" s_take_first ["pairs", "most"] A.f_take_first A.d_take_first
  g_dt_output : GDef K mg "dt_output" s_dt_output ["host", "most"] A.f_dt_output A.d_dt_output
  g_dt_take : GDef K mg "dt_take" s_dt_take ["host", "most"] A.f_dt_take A.d_dt_take
  g_dt_cut : GDef K mg "dt_cut" s_dt_cut ["host", "most"] A.f_dt_cut A.d_dt_cut
  g_as_bits : GDef K mg "as_bits" s_as_bits ["marks"] A.f_as_bits A.d_as_bits
  g_dt_told : GDef K mg "dt_told" s_dt_told ["host"] A.f_dt_told A.d_dt_told
  m_Token_init : MDef K A.c_Token "__init__" "Token.__init__" s_Token_init ["self", "black", "total"] A.f_Token_init A.d_Token_init
  m_Recording_init : MDef K A.c_Recording "__init__" "Recording.__init__" s_Recording_init ["self", "number", "state", "ways"] A.f_Recording_init A.d_Recording_init
  m_Recording_put_work : MDef K A.c_Recording "put_work" "Recording.put_work" s_Recording_put_work ["self", "sender", "row"] A.f_Recording_put_work A.d_Recording_put_work
  m_Host_init : MDef K A.c_Host "__init__" "Host.__init__" s_Host_init ["self"] A.f_Host_init A.d_Host_init
  m_Host_begin : MDef K A.c_Host "begin" "Host.begin" s_Host_begin ["self", "me", "n", "active"] A.f_Host_begin A.d_Host_begin
  m_Host_is_busy : MDef K A.c_Host "is_busy" "Host.is_busy" s_Host_is_busy ["self"] A.f_Host_is_busy A.d_Host_is_busy
  m_Host_is_other : MDef K A.c_Host "is_other" "Host.is_other" s_Host_is_other ["self", "who"] A.f_Host_is_other A.d_Host_is_other
  m_Host_send : MDef K A.c_Host "send" "Host.send" s_Host_send ["self", "to", "message"] A.f_Host_send A.d_Host_send
  m_Host_send_to_all : MDef K A.c_Host "send_to_all" "Host.send_to_all" s_Host_send_to_all ["self", "message"] A.f_Host_send_to_all A.d_Host_send_to_all
  m_Host_send_work : MDef K A.c_Host "send_work" "Host.send_work" s_Host_send_work ["self", "to", "row"] A.f_Host_send_work A.d_Host_send_work
  m_Host_work_comes : MDef K A.c_Host "work_comes" "Host.work_comes" s_Host_work_comes ["self", "sender", "row"] A.f_Host_work_comes A.d_Host_work_comes
  m_Host_become_idle : MDef K A.c_Host "become_idle" "Host.become_idle" s_Host_become_idle ["self"] A.f_Host_become_idle A.d_Host_become_idle
  m_Host_watch : MDef K A.c_Host "watch" "Host.watch" s_Host_watch ["self"] A.f_Host_watch A.d_Host_watch
  m_Host_token_comes : MDef K A.c_Host "token_comes" "Host.token_comes" s_Host_token_comes ["self", "black", "total"] A.f_Host_token_comes A.d_Host_token_comes
  m_Host_pass_token : MDef K A.c_Host "pass_token" "Host.pass_token" s_Host_pass_token ["self"] A.f_Host_pass_token A.d_Host_pass_token
  m_Host_last_cut_is_whole : MDef K A.c_Host "last_cut_is_whole" "Host.last_cut_is_whole" s_Host_last_cut_is_whole ["self"] A.f_Host_last_cut_is_whole A.d_Host_last_cut_is_whole
  m_Host_begin_cut : MDef K A.c_Host "begin_cut" "Host.begin_cut" s_Host_begin_cut ["self"] A.f_Host_begin_cut A.d_Host_begin_cut
  m_Host_begin_recording : MDef K A.c_Host "begin_recording" "Host.begin_recording" s_Host_begin_recording ["self", "who", "number", "closed"] A.f_Host_begin_recording A.d_Host_begin_recording
  m_Host_marker_comes : MDef K A.c_Host "marker_comes" "Host.marker_comes" s_Host_marker_comes ["self", "sender", "who", "number"] A.f_Host_marker_comes A.d_Host_marker_comes
  m_Host_end_recording_if_done : MDef K A.c_Host "end_recording_if_done" "Host.end_recording_if_done" s_Host_end_recording_if_done ["self", "who"] A.f_Host_end_recording_if_done A.d_Host_end_recording_if_done
  m_Host_record_comes : MDef K A.c_Host "record_comes" "Host.record_comes" s_Host_record_comes ["self", "sender", "number", "record"] A.f_Host_record_comes A.d_Host_record_comes
  m_Host_cut_bytes : MDef K A.c_Host "cut_bytes" "Host.cut_bytes" s_Host_cut_bytes ["self"] A.f_Host_cut_bytes A.d_Host_cut_bytes
  m_Host_is_blocked : MDef K A.c_Host "is_blocked" "Host.is_blocked" s_Host_is_blocked ["self"] A.f_Host_is_blocked A.d_Host_is_blocked
  m_Host_want : MDef K A.c_Host "want" "Host.want" s_Host_want ["self", "who"] A.f_Host_want A.d_Host_want
  m_Host_want_comes : MDef K A.c_Host "want_comes" "Host.want_comes" s_Host_want_comes ["self", "sender"] A.f_Host_want_comes A.d_Host_want_comes
  m_Host_grant : MDef K A.c_Host "grant" "Host.grant" s_Host_grant ["self", "who"] A.f_Host_grant A.d_Host_grant
  m_Host_grant_comes : MDef K A.c_Host "grant_comes" "Host.grant_comes" s_Host_grant_comes ["self", "sender"] A.f_Host_grant_comes A.d_Host_grant_comes
  m_Host_suspect : MDef K A.c_Host "suspect" "Host.suspect" s_Host_suspect ["self"] A.f_Host_suspect A.d_Host_suspect
  m_Host_send_probe : MDef K A.c_Host "send_probe" "Host.send_probe" s_Host_send_probe ["self", "who", "number"] A.f_Host_send_probe A.d_Host_send_probe
  m_Host_probe_comes : MDef K A.c_Host "probe_comes" "Host.probe_comes" s_Host_probe_comes ["self", "sender", "who", "number"] A.f_Host_probe_comes A.d_Host_probe_comes
  m_Reader_init : MDef K A.c_Reader "__init__" "Reader.__init__" s_Reader_init ["self", "numbers"] A.f_Reader_init A.d_Reader_init
  m_Reader_has_more : MDef K A.c_Reader "has_more" "Reader.has_more" s_Reader_has_more ["self"] A.f_Reader_has_more A.d_Reader_has_more
  m_Reader_take_number : MDef K A.c_Reader "take_number" "Reader.take_number" s_Reader_take_number ["self"] A.f_Reader_take_number A.d_Reader_take_number
  m_Reader_take_row : MDef K A.c_Reader "take_row" "Reader.take_row" s_Reader_take_row ["self"] A.f_Reader_take_row A.d_Reader_take_row
  g_answer_one : GDef K mg "answer_one" s_answer_one ["host", "reader"] A.f_answer_one A.d_answer_one
  g_answers_on : GDef K mg "answers_on" s_answers_on ["host", "calls"] A.f_answers_on A.d_answers_on
  g_answers : GDef K mg "answers" s_answers ["calls"] A.f_answers A.d_answers
  k_WORK : mg "WORK" = some (.int (1) A.t_WORK)
  k_TOKEN : mg "TOKEN" = some (.int (2) A.t_TOKEN)
  k_MARKER : mg "MARKER" = some (.int (3) A.t_MARKER)
  k_RECORD : mg "RECORD" = some (.int (4) A.t_RECORD)
  k_WANT_messages : mg "WANT_messages" = some (.int (5) A.t_WANT_messages)
  k_GRANT_messages : mg "GRANT_messages" = some (.int (6) A.t_GRANT_messages)
  k_PROBE : mg "PROBE" = some (.int (7) A.t_PROBE)
  k_MOST_BYTES : mg "MOST_BYTES" = some (.int (64) A.t_MOST_BYTES)
  k_MOST_WORKS : mg "MOST_WORKS" = some (.int (64) A.t_MOST_WORKS)
  k_SIX_BYTES : mg "SIX_BYTES" = some (.int (6) A.t_SIX_BYTES)
  k_TOO_MUCH_AT : mg "TOO_MUCH_AT" = some (.int (5) A.t_TOO_MUCH_AT)
  k_STATE_AT : mg "STATE_AT" = some (.int (6) A.t_STATE_AT)
  k_NO_ROOM : mg "NO_ROOM" = some (.int (-1) A.t_NO_ROOM)
  k_WRONG : mg "WRONG" = some (.int (-2) A.t_WRONG)
  k_NOT_NOW : mg "NOT_NOW" = some (.int (-3) A.t_NOT_NOW)
  k_TOO_MANY : mg "TOO_MANY" = some (.int (-4) A.t_TOO_MANY)
  k_MOST_HOSTS : mg "MOST_HOSTS" = some (.int (16) A.t_MOST_HOSTS)
  k_MOST_MESSAGE : mg "MOST_MESSAGE" = some (.int (8192) A.t_MOST_MESSAGE)
  k_MOST_WAITING : mg "MOST_WAITING" = some (.int (1024) A.t_MOST_WAITING)
  k_LAST_NUMBER : mg "LAST_NUMBER" = some (.int (4294967295) A.t_LAST_NUMBER)
  k_TOLD_BELOW : mg "TOLD_BELOW" = some (.int (2147483648) A.t_TOLD_BELOW)
  k_MOST_OUTGOING : mg "MOST_OUTGOING" = some (.int (512) A.t_MOST_OUTGOING)
  k_GOES_ROUND_AT : mg "GOES_ROUND_AT" = some (.int (4294967296) A.t_GOES_ROUND_AT)
  k_BEGIN : mg "BEGIN" = some (.int (0) A.t_BEGIN)
  k_STATE : mg "STATE" = some (.int (1) A.t_STATE)
  k_SEND : mg "SEND" = some (.int (2) A.t_SEND)
  k_IDLE : mg "IDLE" = some (.int (3) A.t_IDLE)
  k_WATCH : mg "WATCH" = some (.int (4) A.t_WATCH)
  k_SNAPSHOT : mg "SNAPSHOT" = some (.int (5) A.t_SNAPSHOT)
  k_WANT_host : mg "WANT_host" = some (.int (6) A.t_WANT_host)
  k_GRANT_host : mg "GRANT_host" = some (.int (7) A.t_GRANT_host)
  k_SUSPECT : mg "SUSPECT" = some (.int (8) A.t_SUSPECT)
  k_MESSAGE : mg "MESSAGE" = some (.int (9) A.t_MESSAGE)
  k_OUTPUT : mg "OUTPUT" = some (.int (10) A.t_OUTPUT)
  k_TAKE : mg "TAKE" = some (.int (11) A.t_TAKE)
  k_CUT : mg "CUT" = some (.int (12) A.t_CUT)
  k_TOLD : mg "TOLD" = some (.int (13) A.t_TOLD)
  b_any : mg "any" = none
  b_len : mg "len" = none
  b_list : mg "list" = none
  b_range : mg "range" = none
  b_reversed : mg "reversed" = none
set_option maxHeartbeats 4000000 in
theorem txt_mk {K : PySem.W.Frag} {h : Heap} {mg : Str → Option Value} (X : K.In h) (G : h.Ns mainGlobals mg)
    {c_Token : Addr}
    {c_Recording : Addr}
    {c_Host : Addr}
    {c_Reader : Addr}
    {f_four_bytes : Addr} {oc_four_bytes kV_four_bytes doc_four_bytes pm_four_bytes cd_four_bytes ct_four_bytes : Value} {od_four_bytes an_four_bytes : Option Addr} {sl_four_bytes : Array (Option Value)}
    {f_number_at : Addr} {oc_number_at kV_number_at doc_number_at pm_number_at cd_number_at ct_number_at : Value} {od_number_at an_number_at : Option Addr} {sl_number_at : Array (Option Value)}
    {f_work_message : Addr} {oc_work_message kV_work_message doc_work_message pm_work_message cd_work_message ct_work_message : Value} {od_work_message an_work_message : Option Addr} {sl_work_message : Array (Option Value)}
    {f_token_message : Addr} {oc_token_message kV_token_message doc_token_message pm_token_message cd_token_message ct_token_message : Value} {od_token_message an_token_message : Option Addr} {sl_token_message : Array (Option Value)}
    {f_marker_message : Addr} {oc_marker_message kV_marker_message doc_marker_message pm_marker_message cd_marker_message ct_marker_message : Value} {od_marker_message an_marker_message : Option Addr} {sl_marker_message : Array (Option Value)}
    {f_record_message : Addr} {oc_record_message kV_record_message doc_record_message pm_record_message cd_record_message ct_record_message : Value} {od_record_message an_record_message : Option Addr} {sl_record_message : Array (Option Value)}
    {f_want_message : Addr} {oc_want_message kV_want_message doc_want_message pm_want_message cd_want_message ct_want_message : Value} {od_want_message an_want_message : Option Addr} {sl_want_message : Array (Option Value)}
    {f_grant_message : Addr} {oc_grant_message kV_grant_message doc_grant_message pm_grant_message cd_grant_message ct_grant_message : Value} {od_grant_message an_grant_message : Option Addr} {sl_grant_message : Array (Option Value)}
    {f_probe_message : Addr} {oc_probe_message kV_probe_message doc_probe_message pm_probe_message cd_probe_message ct_probe_message : Value} {od_probe_message an_probe_message : Option Addr} {sl_probe_message : Array (Option Value)}
    {f_record_bytes : Addr} {oc_record_bytes kV_record_bytes doc_record_bytes pm_record_bytes cd_record_bytes ct_record_bytes : Value} {od_record_bytes an_record_bytes : Option Addr} {sl_record_bytes : Array (Option Value)}
    {f_end_of_row : Addr} {oc_end_of_row kV_end_of_row doc_end_of_row pm_end_of_row cd_end_of_row ct_end_of_row : Value} {od_end_of_row an_end_of_row : Option Addr} {sl_end_of_row : Array (Option Value)}
    {f_end_of_works : Addr} {oc_end_of_works kV_end_of_works doc_end_of_works pm_end_of_works cd_end_of_works ct_end_of_works : Value} {od_end_of_works an_end_of_works : Option Addr} {sl_end_of_works : Array (Option Value)}
    {f_is_right_record : Addr} {oc_is_right_record kV_is_right_record doc_is_right_record pm_is_right_record cd_is_right_record ct_is_right_record : Value} {od_is_right_record an_is_right_record : Option Addr} {sl_is_right_record : Array (Option Value)}
    {f_is_right : Addr} {oc_is_right kV_is_right doc_is_right pm_is_right cd_is_right ct_is_right : Value} {od_is_right an_is_right : Option Addr} {sl_is_right : Array (Option Value)}
    {f_message_comes : Addr} {oc_message_comes kV_message_comes doc_message_comes pm_message_comes cd_message_comes ct_message_comes : Value} {od_message_comes an_message_comes : Option Addr} {sl_message_comes : Array (Option Value)}
    {f_dt_begin : Addr} {oc_dt_begin kV_dt_begin doc_dt_begin pm_dt_begin cd_dt_begin ct_dt_begin : Value} {od_dt_begin an_dt_begin : Option Addr} {sl_dt_begin : Array (Option Value)}
    {f_dt_state : Addr} {oc_dt_state kV_dt_state doc_dt_state pm_dt_state cd_dt_state ct_dt_state : Value} {od_dt_state an_dt_state : Option Addr} {sl_dt_state : Array (Option Value)}
    {f_dt_send : Addr} {oc_dt_send kV_dt_send doc_dt_send pm_dt_send cd_dt_send ct_dt_send : Value} {od_dt_send an_dt_send : Option Addr} {sl_dt_send : Array (Option Value)}
    {f_dt_idle : Addr} {oc_dt_idle kV_dt_idle doc_dt_idle pm_dt_idle cd_dt_idle ct_dt_idle : Value} {od_dt_idle an_dt_idle : Option Addr} {sl_dt_idle : Array (Option Value)}
    {f_dt_watch : Addr} {oc_dt_watch kV_dt_watch doc_dt_watch pm_dt_watch cd_dt_watch ct_dt_watch : Value} {od_dt_watch an_dt_watch : Option Addr} {sl_dt_watch : Array (Option Value)}
    {f_dt_snapshot : Addr} {oc_dt_snapshot kV_dt_snapshot doc_dt_snapshot pm_dt_snapshot cd_dt_snapshot ct_dt_snapshot : Value} {od_dt_snapshot an_dt_snapshot : Option Addr} {sl_dt_snapshot : Array (Option Value)}
    {f_dt_want : Addr} {oc_dt_want kV_dt_want doc_dt_want pm_dt_want cd_dt_want ct_dt_want : Value} {od_dt_want an_dt_want : Option Addr} {sl_dt_want : Array (Option Value)}
    {f_dt_grant : Addr} {oc_dt_grant kV_dt_grant doc_dt_grant pm_dt_grant cd_dt_grant ct_dt_grant : Value} {od_dt_grant an_dt_grant : Option Addr} {sl_dt_grant : Array (Option Value)}
    {f_dt_suspect : Addr} {oc_dt_suspect kV_dt_suspect doc_dt_suspect pm_dt_suspect cd_dt_suspect ct_dt_suspect : Value} {od_dt_suspect an_dt_suspect : Option Addr} {sl_dt_suspect : Array (Option Value)}
    {f_dt_message : Addr} {oc_dt_message kV_dt_message doc_dt_message pm_dt_message cd_dt_message ct_dt_message : Value} {od_dt_message an_dt_message : Option Addr} {sl_dt_message : Array (Option Value)}
    {f_take_first : Addr} {oc_take_first kV_take_first doc_take_first pm_take_first cd_take_first ct_take_first : Value} {od_take_first an_take_first : Option Addr} {sl_take_first : Array (Option Value)}
    {f_dt_output : Addr} {oc_dt_output kV_dt_output doc_dt_output pm_dt_output cd_dt_output ct_dt_output : Value} {od_dt_output an_dt_output : Option Addr} {sl_dt_output : Array (Option Value)}
    {f_dt_take : Addr} {oc_dt_take kV_dt_take doc_dt_take pm_dt_take cd_dt_take ct_dt_take : Value} {od_dt_take an_dt_take : Option Addr} {sl_dt_take : Array (Option Value)}
    {f_dt_cut : Addr} {oc_dt_cut kV_dt_cut doc_dt_cut pm_dt_cut cd_dt_cut ct_dt_cut : Value} {od_dt_cut an_dt_cut : Option Addr} {sl_dt_cut : Array (Option Value)}
    {f_as_bits : Addr} {oc_as_bits kV_as_bits doc_as_bits pm_as_bits cd_as_bits ct_as_bits : Value} {od_as_bits an_as_bits : Option Addr} {sl_as_bits : Array (Option Value)}
    {f_dt_told : Addr} {oc_dt_told kV_dt_told doc_dt_told pm_dt_told cd_dt_told ct_dt_told : Value} {od_dt_told an_dt_told : Option Addr} {sl_dt_told : Array (Option Value)}
    {f_Token_init : Addr} {oc_Token_init kV_Token_init doc_Token_init pm_Token_init cd_Token_init ct_Token_init : Value} {od_Token_init an_Token_init : Option Addr} {sl_Token_init : Array (Option Value)}
    {f_Recording_init : Addr} {oc_Recording_init kV_Recording_init doc_Recording_init pm_Recording_init cd_Recording_init ct_Recording_init : Value} {od_Recording_init an_Recording_init : Option Addr} {sl_Recording_init : Array (Option Value)}
    {f_Recording_put_work : Addr} {oc_Recording_put_work kV_Recording_put_work doc_Recording_put_work pm_Recording_put_work cd_Recording_put_work ct_Recording_put_work : Value} {od_Recording_put_work an_Recording_put_work : Option Addr} {sl_Recording_put_work : Array (Option Value)}
    {f_Host_init : Addr} {oc_Host_init kV_Host_init doc_Host_init pm_Host_init cd_Host_init ct_Host_init : Value} {od_Host_init an_Host_init : Option Addr} {sl_Host_init : Array (Option Value)}
    {f_Host_begin : Addr} {oc_Host_begin kV_Host_begin doc_Host_begin pm_Host_begin cd_Host_begin ct_Host_begin : Value} {od_Host_begin an_Host_begin : Option Addr} {sl_Host_begin : Array (Option Value)}
    {f_Host_is_busy : Addr} {oc_Host_is_busy kV_Host_is_busy doc_Host_is_busy pm_Host_is_busy cd_Host_is_busy ct_Host_is_busy : Value} {od_Host_is_busy an_Host_is_busy : Option Addr} {sl_Host_is_busy : Array (Option Value)}
    {f_Host_is_other : Addr} {oc_Host_is_other kV_Host_is_other doc_Host_is_other pm_Host_is_other cd_Host_is_other ct_Host_is_other : Value} {od_Host_is_other an_Host_is_other : Option Addr} {sl_Host_is_other : Array (Option Value)}
    {f_Host_send : Addr} {oc_Host_send kV_Host_send doc_Host_send pm_Host_send cd_Host_send ct_Host_send : Value} {od_Host_send an_Host_send : Option Addr} {sl_Host_send : Array (Option Value)}
    {f_Host_send_to_all : Addr} {oc_Host_send_to_all kV_Host_send_to_all doc_Host_send_to_all pm_Host_send_to_all cd_Host_send_to_all ct_Host_send_to_all : Value} {od_Host_send_to_all an_Host_send_to_all : Option Addr} {sl_Host_send_to_all : Array (Option Value)}
    {f_Host_send_work : Addr} {oc_Host_send_work kV_Host_send_work doc_Host_send_work pm_Host_send_work cd_Host_send_work ct_Host_send_work : Value} {od_Host_send_work an_Host_send_work : Option Addr} {sl_Host_send_work : Array (Option Value)}
    {f_Host_work_comes : Addr} {oc_Host_work_comes kV_Host_work_comes doc_Host_work_comes pm_Host_work_comes cd_Host_work_comes ct_Host_work_comes : Value} {od_Host_work_comes an_Host_work_comes : Option Addr} {sl_Host_work_comes : Array (Option Value)}
    {f_Host_become_idle : Addr} {oc_Host_become_idle kV_Host_become_idle doc_Host_become_idle pm_Host_become_idle cd_Host_become_idle ct_Host_become_idle : Value} {od_Host_become_idle an_Host_become_idle : Option Addr} {sl_Host_become_idle : Array (Option Value)}
    {f_Host_watch : Addr} {oc_Host_watch kV_Host_watch doc_Host_watch pm_Host_watch cd_Host_watch ct_Host_watch : Value} {od_Host_watch an_Host_watch : Option Addr} {sl_Host_watch : Array (Option Value)}
    {f_Host_token_comes : Addr} {oc_Host_token_comes kV_Host_token_comes doc_Host_token_comes pm_Host_token_comes cd_Host_token_comes ct_Host_token_comes : Value} {od_Host_token_comes an_Host_token_comes : Option Addr} {sl_Host_token_comes : Array (Option Value)}
    {f_Host_pass_token : Addr} {oc_Host_pass_token kV_Host_pass_token doc_Host_pass_token pm_Host_pass_token cd_Host_pass_token ct_Host_pass_token : Value} {od_Host_pass_token an_Host_pass_token : Option Addr} {sl_Host_pass_token : Array (Option Value)}
    {f_Host_last_cut_is_whole : Addr} {oc_Host_last_cut_is_whole kV_Host_last_cut_is_whole doc_Host_last_cut_is_whole pm_Host_last_cut_is_whole cd_Host_last_cut_is_whole ct_Host_last_cut_is_whole : Value} {od_Host_last_cut_is_whole an_Host_last_cut_is_whole : Option Addr} {sl_Host_last_cut_is_whole : Array (Option Value)}
    {f_Host_begin_cut : Addr} {oc_Host_begin_cut kV_Host_begin_cut doc_Host_begin_cut pm_Host_begin_cut cd_Host_begin_cut ct_Host_begin_cut : Value} {od_Host_begin_cut an_Host_begin_cut : Option Addr} {sl_Host_begin_cut : Array (Option Value)}
    {f_Host_begin_recording : Addr} {oc_Host_begin_recording kV_Host_begin_recording doc_Host_begin_recording pm_Host_begin_recording cd_Host_begin_recording ct_Host_begin_recording : Value} {od_Host_begin_recording an_Host_begin_recording : Option Addr} {sl_Host_begin_recording : Array (Option Value)}
    {f_Host_marker_comes : Addr} {oc_Host_marker_comes kV_Host_marker_comes doc_Host_marker_comes pm_Host_marker_comes cd_Host_marker_comes ct_Host_marker_comes : Value} {od_Host_marker_comes an_Host_marker_comes : Option Addr} {sl_Host_marker_comes : Array (Option Value)}
    {f_Host_end_recording_if_done : Addr} {oc_Host_end_recording_if_done kV_Host_end_recording_if_done doc_Host_end_recording_if_done pm_Host_end_recording_if_done cd_Host_end_recording_if_done ct_Host_end_recording_if_done : Value} {od_Host_end_recording_if_done an_Host_end_recording_if_done : Option Addr} {sl_Host_end_recording_if_done : Array (Option Value)}
    {f_Host_record_comes : Addr} {oc_Host_record_comes kV_Host_record_comes doc_Host_record_comes pm_Host_record_comes cd_Host_record_comes ct_Host_record_comes : Value} {od_Host_record_comes an_Host_record_comes : Option Addr} {sl_Host_record_comes : Array (Option Value)}
    {f_Host_cut_bytes : Addr} {oc_Host_cut_bytes kV_Host_cut_bytes doc_Host_cut_bytes pm_Host_cut_bytes cd_Host_cut_bytes ct_Host_cut_bytes : Value} {od_Host_cut_bytes an_Host_cut_bytes : Option Addr} {sl_Host_cut_bytes : Array (Option Value)}
    {f_Host_is_blocked : Addr} {oc_Host_is_blocked kV_Host_is_blocked doc_Host_is_blocked pm_Host_is_blocked cd_Host_is_blocked ct_Host_is_blocked : Value} {od_Host_is_blocked an_Host_is_blocked : Option Addr} {sl_Host_is_blocked : Array (Option Value)}
    {f_Host_want : Addr} {oc_Host_want kV_Host_want doc_Host_want pm_Host_want cd_Host_want ct_Host_want : Value} {od_Host_want an_Host_want : Option Addr} {sl_Host_want : Array (Option Value)}
    {f_Host_want_comes : Addr} {oc_Host_want_comes kV_Host_want_comes doc_Host_want_comes pm_Host_want_comes cd_Host_want_comes ct_Host_want_comes : Value} {od_Host_want_comes an_Host_want_comes : Option Addr} {sl_Host_want_comes : Array (Option Value)}
    {f_Host_grant : Addr} {oc_Host_grant kV_Host_grant doc_Host_grant pm_Host_grant cd_Host_grant ct_Host_grant : Value} {od_Host_grant an_Host_grant : Option Addr} {sl_Host_grant : Array (Option Value)}
    {f_Host_grant_comes : Addr} {oc_Host_grant_comes kV_Host_grant_comes doc_Host_grant_comes pm_Host_grant_comes cd_Host_grant_comes ct_Host_grant_comes : Value} {od_Host_grant_comes an_Host_grant_comes : Option Addr} {sl_Host_grant_comes : Array (Option Value)}
    {f_Host_suspect : Addr} {oc_Host_suspect kV_Host_suspect doc_Host_suspect pm_Host_suspect cd_Host_suspect ct_Host_suspect : Value} {od_Host_suspect an_Host_suspect : Option Addr} {sl_Host_suspect : Array (Option Value)}
    {f_Host_send_probe : Addr} {oc_Host_send_probe kV_Host_send_probe doc_Host_send_probe pm_Host_send_probe cd_Host_send_probe ct_Host_send_probe : Value} {od_Host_send_probe an_Host_send_probe : Option Addr} {sl_Host_send_probe : Array (Option Value)}
    {f_Host_probe_comes : Addr} {oc_Host_probe_comes kV_Host_probe_comes doc_Host_probe_comes pm_Host_probe_comes cd_Host_probe_comes ct_Host_probe_comes : Value} {od_Host_probe_comes an_Host_probe_comes : Option Addr} {sl_Host_probe_comes : Array (Option Value)}
    {f_Reader_init : Addr} {oc_Reader_init kV_Reader_init doc_Reader_init pm_Reader_init cd_Reader_init ct_Reader_init : Value} {od_Reader_init an_Reader_init : Option Addr} {sl_Reader_init : Array (Option Value)}
    {f_Reader_has_more : Addr} {oc_Reader_has_more kV_Reader_has_more doc_Reader_has_more pm_Reader_has_more cd_Reader_has_more ct_Reader_has_more : Value} {od_Reader_has_more an_Reader_has_more : Option Addr} {sl_Reader_has_more : Array (Option Value)}
    {f_Reader_take_number : Addr} {oc_Reader_take_number kV_Reader_take_number doc_Reader_take_number pm_Reader_take_number cd_Reader_take_number ct_Reader_take_number : Value} {od_Reader_take_number an_Reader_take_number : Option Addr} {sl_Reader_take_number : Array (Option Value)}
    {f_Reader_take_row : Addr} {oc_Reader_take_row kV_Reader_take_row doc_Reader_take_row pm_Reader_take_row cd_Reader_take_row ct_Reader_take_row : Value} {od_Reader_take_row an_Reader_take_row : Option Addr} {sl_Reader_take_row : Array (Option Value)}
    {f_answer_one : Addr} {oc_answer_one kV_answer_one doc_answer_one pm_answer_one cd_answer_one ct_answer_one : Value} {od_answer_one an_answer_one : Option Addr} {sl_answer_one : Array (Option Value)}
    {f_answers_on : Addr} {oc_answers_on kV_answers_on doc_answers_on pm_answers_on cd_answers_on ct_answers_on : Value} {od_answers_on an_answers_on : Option Addr} {sl_answers_on : Array (Option Value)}
    {f_answers : Addr} {oc_answers kV_answers doc_answers pm_answers cd_answers ct_answers : Value} {od_answers an_answers : Option Addr} {sl_answers : Array (Option Value)}
    {t_WORK : Tok}
    {t_TOKEN : Tok}
    {t_MARKER : Tok}
    {t_RECORD : Tok}
    {t_WANT_messages : Tok}
    {t_GRANT_messages : Tok}
    {t_PROBE : Tok}
    {t_MOST_BYTES : Tok}
    {t_MOST_WORKS : Tok}
    {t_SIX_BYTES : Tok}
    {t_TOO_MUCH_AT : Tok}
    {t_STATE_AT : Tok}
    {t_NO_ROOM : Tok}
    {t_WRONG : Tok}
    {t_NOT_NOW : Tok}
    {t_TOO_MANY : Tok}
    {t_MOST_HOSTS : Tok}
    {t_MOST_MESSAGE : Tok}
    {t_MOST_WAITING : Tok}
    {t_LAST_NUMBER : Tok}
    {t_TOLD_BELOW : Tok}
    {t_MOST_OUTGOING : Tok}
    {t_GOES_ROUND_AT : Tok}
    {t_BEGIN : Tok}
    {t_STATE : Tok}
    {t_SEND : Tok}
    {t_IDLE : Tok}
    {t_WATCH : Tok}
    {t_SNAPSHOT : Tok}
    {t_WANT_host : Tok}
    {t_GRANT_host : Tok}
    {t_SUSPECT : Tok}
    {t_MESSAGE : Tok}
    {t_OUTPUT : Tok}
    {t_TAKE : Tok}
    {t_CUT : Tok}
    {t_TOLD : Tok}
    (a_Token : PySem.W.nsIn K mainGlobals "Token" = some (some (.ref c_Token)))
    (pg_Token : PySem.W.plainGet K c_Token Str.empty = true)
    (hd_Token : PySem.W.hasDictIn K c_Token = true)
    (po_Token : PySem.W.plainOver K c_Token = true)
    (sa_Token : PySem.W.findIn K (.ref c_Token) "__setattr__" = some (some (.builtin "object.__setattr__")))
    (mk_Token : PySem.W.makesIn K c_Token = true)
    (kc_Token : PySem.W.keepIn K (.ref c_Token) = true)
    (na_Token_black : PySem.W.findIn K (.ref c_Token) "black" = some none)
    (na_Token_total : PySem.W.findIn K (.ref c_Token) "total" = some none)
    (a_Recording : PySem.W.nsIn K mainGlobals "Recording" = some (some (.ref c_Recording)))
    (pg_Recording : PySem.W.plainGet K c_Recording Str.empty = true)
    (hd_Recording : PySem.W.hasDictIn K c_Recording = true)
    (po_Recording : PySem.W.plainOver K c_Recording = true)
    (sa_Recording : PySem.W.findIn K (.ref c_Recording) "__setattr__" = some (some (.builtin "object.__setattr__")))
    (mk_Recording : PySem.W.makesIn K c_Recording = true)
    (kc_Recording : PySem.W.keepIn K (.ref c_Recording) = true)
    (na_Recording_number : PySem.W.findIn K (.ref c_Recording) "number" = some none)
    (na_Recording_state : PySem.W.findIn K (.ref c_Recording) "state" = some none)
    (na_Recording_ways : PySem.W.findIn K (.ref c_Recording) "ways" = some none)
    (na_Recording_works : PySem.W.findIn K (.ref c_Recording) "works" = some none)
    (na_Recording_too_much : PySem.W.findIn K (.ref c_Recording) "too_much" = some none)
    (a_Host : PySem.W.nsIn K mainGlobals "Host" = some (some (.ref c_Host)))
    (pg_Host : PySem.W.plainGet K c_Host Str.empty = true)
    (hd_Host : PySem.W.hasDictIn K c_Host = true)
    (po_Host : PySem.W.plainOver K c_Host = true)
    (sa_Host : PySem.W.findIn K (.ref c_Host) "__setattr__" = some (some (.builtin "object.__setattr__")))
    (mk_Host : PySem.W.makesIn K c_Host = true)
    (kc_Host : PySem.W.keepIn K (.ref c_Host) = true)
    (na_Host_me : PySem.W.findIn K (.ref c_Host) "me" = some none)
    (na_Host_n : PySem.W.findIn K (.ref c_Host) "n" = some none)
    (na_Host_active : PySem.W.findIn K (.ref c_Host) "active" = some none)
    (na_Host_state : PySem.W.findIn K (.ref c_Host) "state" = some none)
    (na_Host_outgoing : PySem.W.findIn K (.ref c_Host) "outgoing" = some none)
    (na_Host_works : PySem.W.findIn K (.ref c_Host) "works" = some none)
    (na_Host_balance : PySem.W.findIn K (.ref c_Host) "balance" = some none)
    (na_Host_black : PySem.W.findIn K (.ref c_Host) "black" = some none)
    (na_Host_watching : PySem.W.findIn K (.ref c_Host) "watching" = some none)
    (na_Host_token : PySem.W.findIn K (.ref c_Host) "token" = some none)
    (na_Host_found : PySem.W.findIn K (.ref c_Host) "found" = some none)
    (na_Host_cut_number : PySem.W.findIn K (.ref c_Host) "cut_number" = some none)
    (na_Host_records : PySem.W.findIn K (.ref c_Host) "records" = some none)
    (na_Host_recordings : PySem.W.findIn K (.ref c_Host) "recordings" = some none)
    (na_Host_waits : PySem.W.findIn K (.ref c_Host) "waits" = some none)
    (na_Host_owes : PySem.W.findIn K (.ref c_Host) "owes" = some none)
    (na_Host_suspect_number : PySem.W.findIn K (.ref c_Host) "suspect_number" = some none)
    (na_Host_counted : PySem.W.findIn K (.ref c_Host) "counted" = some none)
    (na_Host_locked : PySem.W.findIn K (.ref c_Host) "locked" = some none)
    (a_Reader : PySem.W.nsIn K mainGlobals "Reader" = some (some (.ref c_Reader)))
    (pg_Reader : PySem.W.plainGet K c_Reader Str.empty = true)
    (hd_Reader : PySem.W.hasDictIn K c_Reader = true)
    (po_Reader : PySem.W.plainOver K c_Reader = true)
    (sa_Reader : PySem.W.findIn K (.ref c_Reader) "__setattr__" = some (some (.builtin "object.__setattr__")))
    (mk_Reader : PySem.W.makesIn K c_Reader = true)
    (kc_Reader : PySem.W.keepIn K (.ref c_Reader) = true)
    (na_Reader_numbers : PySem.W.findIn K (.ref c_Reader) "numbers" = some none)
    (na_Reader_at : PySem.W.findIn K (.ref c_Reader) "at" = some none)
    (a_four_bytes : PySem.W.nsIn K mainGlobals "four_bytes" = some (some (.ref f_four_bytes)))
    (l_four_bytes : K.lookup f_four_bytes = some ⟨oc_four_bytes, od_four_bytes, .func (PySem.W.fnOf "four_bytes" "four_bytes" (defArgs s_four_bytes) (defBody s_four_bytes) (defScope s_four_bytes) .none kV_four_bytes doc_four_bytes pm_four_bytes an_four_bytes cd_four_bytes ct_four_bytes), sl_four_bytes⟩)
    (cc_four_bytes : PySem.W.codeIn K cd_four_bytes "four_bytes" = true)
    (kp_four_bytes : PySem.W.keepIn K (.ref f_four_bytes) = true)
    (a_number_at : PySem.W.nsIn K mainGlobals "number_at" = some (some (.ref f_number_at)))
    (l_number_at : K.lookup f_number_at = some ⟨oc_number_at, od_number_at, .func (PySem.W.fnOf "number_at" "number_at" (defArgs s_number_at) (defBody s_number_at) (defScope s_number_at) .none kV_number_at doc_number_at pm_number_at an_number_at cd_number_at ct_number_at), sl_number_at⟩)
    (cc_number_at : PySem.W.codeIn K cd_number_at "number_at" = true)
    (kp_number_at : PySem.W.keepIn K (.ref f_number_at) = true)
    (a_work_message : PySem.W.nsIn K mainGlobals "work_message" = some (some (.ref f_work_message)))
    (l_work_message : K.lookup f_work_message = some ⟨oc_work_message, od_work_message, .func (PySem.W.fnOf "work_message" "work_message" (defArgs s_work_message) (defBody s_work_message) (defScope s_work_message) .none kV_work_message doc_work_message pm_work_message an_work_message cd_work_message ct_work_message), sl_work_message⟩)
    (cc_work_message : PySem.W.codeIn K cd_work_message "work_message" = true)
    (kp_work_message : PySem.W.keepIn K (.ref f_work_message) = true)
    (a_token_message : PySem.W.nsIn K mainGlobals "token_message" = some (some (.ref f_token_message)))
    (l_token_message : K.lookup f_token_message = some ⟨oc_token_message, od_token_message, .func (PySem.W.fnOf "token_message" "token_message" (defArgs s_token_message) (defBody s_token_message) (defScope s_token_message) .none kV_token_message doc_token_message pm_token_message an_token_message cd_token_message ct_token_message), sl_token_message⟩)
    (cc_token_message : PySem.W.codeIn K cd_token_message "token_message" = true)
    (kp_token_message : PySem.W.keepIn K (.ref f_token_message) = true)
    (a_marker_message : PySem.W.nsIn K mainGlobals "marker_message" = some (some (.ref f_marker_message)))
    (l_marker_message : K.lookup f_marker_message = some ⟨oc_marker_message, od_marker_message, .func (PySem.W.fnOf "marker_message" "marker_message" (defArgs s_marker_message) (defBody s_marker_message) (defScope s_marker_message) .none kV_marker_message doc_marker_message pm_marker_message an_marker_message cd_marker_message ct_marker_message), sl_marker_message⟩)
    (cc_marker_message : PySem.W.codeIn K cd_marker_message "marker_message" = true)
    (kp_marker_message : PySem.W.keepIn K (.ref f_marker_message) = true)
    (a_record_message : PySem.W.nsIn K mainGlobals "record_message" = some (some (.ref f_record_message)))
    (l_record_message : K.lookup f_record_message = some ⟨oc_record_message, od_record_message, .func (PySem.W.fnOf "record_message" "record_message" (defArgs s_record_message) (defBody s_record_message) (defScope s_record_message) .none kV_record_message doc_record_message pm_record_message an_record_message cd_record_message ct_record_message), sl_record_message⟩)
    (cc_record_message : PySem.W.codeIn K cd_record_message "record_message" = true)
    (kp_record_message : PySem.W.keepIn K (.ref f_record_message) = true)
    (a_want_message : PySem.W.nsIn K mainGlobals "want_message" = some (some (.ref f_want_message)))
    (l_want_message : K.lookup f_want_message = some ⟨oc_want_message, od_want_message, .func (PySem.W.fnOf "want_message" "want_message" (defArgs s_want_message) (defBody s_want_message) (defScope s_want_message) .none kV_want_message doc_want_message pm_want_message an_want_message cd_want_message ct_want_message), sl_want_message⟩)
    (cc_want_message : PySem.W.codeIn K cd_want_message "want_message" = true)
    (kp_want_message : PySem.W.keepIn K (.ref f_want_message) = true)
    (a_grant_message : PySem.W.nsIn K mainGlobals "grant_message" = some (some (.ref f_grant_message)))
    (l_grant_message : K.lookup f_grant_message = some ⟨oc_grant_message, od_grant_message, .func (PySem.W.fnOf "grant_message" "grant_message" (defArgs s_grant_message) (defBody s_grant_message) (defScope s_grant_message) .none kV_grant_message doc_grant_message pm_grant_message an_grant_message cd_grant_message ct_grant_message), sl_grant_message⟩)
    (cc_grant_message : PySem.W.codeIn K cd_grant_message "grant_message" = true)
    (kp_grant_message : PySem.W.keepIn K (.ref f_grant_message) = true)
    (a_probe_message : PySem.W.nsIn K mainGlobals "probe_message" = some (some (.ref f_probe_message)))
    (l_probe_message : K.lookup f_probe_message = some ⟨oc_probe_message, od_probe_message, .func (PySem.W.fnOf "probe_message" "probe_message" (defArgs s_probe_message) (defBody s_probe_message) (defScope s_probe_message) .none kV_probe_message doc_probe_message pm_probe_message an_probe_message cd_probe_message ct_probe_message), sl_probe_message⟩)
    (cc_probe_message : PySem.W.codeIn K cd_probe_message "probe_message" = true)
    (kp_probe_message : PySem.W.keepIn K (.ref f_probe_message) = true)
    (a_record_bytes : PySem.W.nsIn K mainGlobals "record_bytes" = some (some (.ref f_record_bytes)))
    (l_record_bytes : K.lookup f_record_bytes = some ⟨oc_record_bytes, od_record_bytes, .func (PySem.W.fnOf "record_bytes" "record_bytes" (defArgs s_record_bytes) (defBody s_record_bytes) (defScope s_record_bytes) .none kV_record_bytes doc_record_bytes pm_record_bytes an_record_bytes cd_record_bytes ct_record_bytes), sl_record_bytes⟩)
    (cc_record_bytes : PySem.W.codeIn K cd_record_bytes "record_bytes" = true)
    (kp_record_bytes : PySem.W.keepIn K (.ref f_record_bytes) = true)
    (a_end_of_row : PySem.W.nsIn K mainGlobals "end_of_row" = some (some (.ref f_end_of_row)))
    (l_end_of_row : K.lookup f_end_of_row = some ⟨oc_end_of_row, od_end_of_row, .func (PySem.W.fnOf "end_of_row" "end_of_row" (defArgs s_end_of_row) (defBody s_end_of_row) (defScope s_end_of_row) .none kV_end_of_row doc_end_of_row pm_end_of_row an_end_of_row cd_end_of_row ct_end_of_row), sl_end_of_row⟩)
    (cc_end_of_row : PySem.W.codeIn K cd_end_of_row "end_of_row" = true)
    (kp_end_of_row : PySem.W.keepIn K (.ref f_end_of_row) = true)
    (a_end_of_works : PySem.W.nsIn K mainGlobals "end_of_works" = some (some (.ref f_end_of_works)))
    (l_end_of_works : K.lookup f_end_of_works = some ⟨oc_end_of_works, od_end_of_works, .func (PySem.W.fnOf "end_of_works" "end_of_works" (defArgs s_end_of_works) (defBody s_end_of_works) (defScope s_end_of_works) .none kV_end_of_works doc_end_of_works pm_end_of_works an_end_of_works cd_end_of_works ct_end_of_works), sl_end_of_works⟩)
    (cc_end_of_works : PySem.W.codeIn K cd_end_of_works "end_of_works" = true)
    (kp_end_of_works : PySem.W.keepIn K (.ref f_end_of_works) = true)
    (a_is_right_record : PySem.W.nsIn K mainGlobals "is_right_record" = some (some (.ref f_is_right_record)))
    (l_is_right_record : K.lookup f_is_right_record = some ⟨oc_is_right_record, od_is_right_record, .func (PySem.W.fnOf "is_right_record" "is_right_record" (defArgs s_is_right_record) (defBody s_is_right_record) (defScope s_is_right_record) .none kV_is_right_record doc_is_right_record pm_is_right_record an_is_right_record cd_is_right_record ct_is_right_record), sl_is_right_record⟩)
    (cc_is_right_record : PySem.W.codeIn K cd_is_right_record "is_right_record" = true)
    (kp_is_right_record : PySem.W.keepIn K (.ref f_is_right_record) = true)
    (a_is_right : PySem.W.nsIn K mainGlobals "is_right" = some (some (.ref f_is_right)))
    (l_is_right : K.lookup f_is_right = some ⟨oc_is_right, od_is_right, .func (PySem.W.fnOf "is_right" "is_right" (defArgs s_is_right) (defBody s_is_right) (defScope s_is_right) .none kV_is_right doc_is_right pm_is_right an_is_right cd_is_right ct_is_right), sl_is_right⟩)
    (cc_is_right : PySem.W.codeIn K cd_is_right "is_right" = true)
    (kp_is_right : PySem.W.keepIn K (.ref f_is_right) = true)
    (a_message_comes : PySem.W.nsIn K mainGlobals "message_comes" = some (some (.ref f_message_comes)))
    (l_message_comes : K.lookup f_message_comes = some ⟨oc_message_comes, od_message_comes, .func (PySem.W.fnOf "message_comes" "message_comes" (defArgs s_message_comes) (defBody s_message_comes) (defScope s_message_comes) .none kV_message_comes doc_message_comes pm_message_comes an_message_comes cd_message_comes ct_message_comes), sl_message_comes⟩)
    (cc_message_comes : PySem.W.codeIn K cd_message_comes "message_comes" = true)
    (kp_message_comes : PySem.W.keepIn K (.ref f_message_comes) = true)
    (a_dt_begin : PySem.W.nsIn K mainGlobals "dt_begin" = some (some (.ref f_dt_begin)))
    (l_dt_begin : K.lookup f_dt_begin = some ⟨oc_dt_begin, od_dt_begin, .func (PySem.W.fnOf "dt_begin" "dt_begin" (defArgs s_dt_begin) (defBody s_dt_begin) (defScope s_dt_begin) .none kV_dt_begin doc_dt_begin pm_dt_begin an_dt_begin cd_dt_begin ct_dt_begin), sl_dt_begin⟩)
    (cc_dt_begin : PySem.W.codeIn K cd_dt_begin "dt_begin" = true)
    (kp_dt_begin : PySem.W.keepIn K (.ref f_dt_begin) = true)
    (a_dt_state : PySem.W.nsIn K mainGlobals "dt_state" = some (some (.ref f_dt_state)))
    (l_dt_state : K.lookup f_dt_state = some ⟨oc_dt_state, od_dt_state, .func (PySem.W.fnOf "dt_state" "dt_state" (defArgs s_dt_state) (defBody s_dt_state) (defScope s_dt_state) .none kV_dt_state doc_dt_state pm_dt_state an_dt_state cd_dt_state ct_dt_state), sl_dt_state⟩)
    (cc_dt_state : PySem.W.codeIn K cd_dt_state "dt_state" = true)
    (kp_dt_state : PySem.W.keepIn K (.ref f_dt_state) = true)
    (a_dt_send : PySem.W.nsIn K mainGlobals "dt_send" = some (some (.ref f_dt_send)))
    (l_dt_send : K.lookup f_dt_send = some ⟨oc_dt_send, od_dt_send, .func (PySem.W.fnOf "dt_send" "dt_send" (defArgs s_dt_send) (defBody s_dt_send) (defScope s_dt_send) .none kV_dt_send doc_dt_send pm_dt_send an_dt_send cd_dt_send ct_dt_send), sl_dt_send⟩)
    (cc_dt_send : PySem.W.codeIn K cd_dt_send "dt_send" = true)
    (kp_dt_send : PySem.W.keepIn K (.ref f_dt_send) = true)
    (a_dt_idle : PySem.W.nsIn K mainGlobals "dt_idle" = some (some (.ref f_dt_idle)))
    (l_dt_idle : K.lookup f_dt_idle = some ⟨oc_dt_idle, od_dt_idle, .func (PySem.W.fnOf "dt_idle" "dt_idle" (defArgs s_dt_idle) (defBody s_dt_idle) (defScope s_dt_idle) .none kV_dt_idle doc_dt_idle pm_dt_idle an_dt_idle cd_dt_idle ct_dt_idle), sl_dt_idle⟩)
    (cc_dt_idle : PySem.W.codeIn K cd_dt_idle "dt_idle" = true)
    (kp_dt_idle : PySem.W.keepIn K (.ref f_dt_idle) = true)
    (a_dt_watch : PySem.W.nsIn K mainGlobals "dt_watch" = some (some (.ref f_dt_watch)))
    (l_dt_watch : K.lookup f_dt_watch = some ⟨oc_dt_watch, od_dt_watch, .func (PySem.W.fnOf "dt_watch" "dt_watch" (defArgs s_dt_watch) (defBody s_dt_watch) (defScope s_dt_watch) .none kV_dt_watch doc_dt_watch pm_dt_watch an_dt_watch cd_dt_watch ct_dt_watch), sl_dt_watch⟩)
    (cc_dt_watch : PySem.W.codeIn K cd_dt_watch "dt_watch" = true)
    (kp_dt_watch : PySem.W.keepIn K (.ref f_dt_watch) = true)
    (a_dt_snapshot : PySem.W.nsIn K mainGlobals "dt_snapshot" = some (some (.ref f_dt_snapshot)))
    (l_dt_snapshot : K.lookup f_dt_snapshot = some ⟨oc_dt_snapshot, od_dt_snapshot, .func (PySem.W.fnOf "dt_snapshot" "dt_snapshot" (defArgs s_dt_snapshot) (defBody s_dt_snapshot) (defScope s_dt_snapshot) .none kV_dt_snapshot doc_dt_snapshot pm_dt_snapshot an_dt_snapshot cd_dt_snapshot ct_dt_snapshot), sl_dt_snapshot⟩)
    (cc_dt_snapshot : PySem.W.codeIn K cd_dt_snapshot "dt_snapshot" = true)
    (kp_dt_snapshot : PySem.W.keepIn K (.ref f_dt_snapshot) = true)
    (a_dt_want : PySem.W.nsIn K mainGlobals "dt_want" = some (some (.ref f_dt_want)))
    (l_dt_want : K.lookup f_dt_want = some ⟨oc_dt_want, od_dt_want, .func (PySem.W.fnOf "dt_want" "dt_want" (defArgs s_dt_want) (defBody s_dt_want) (defScope s_dt_want) .none kV_dt_want doc_dt_want pm_dt_want an_dt_want cd_dt_want ct_dt_want), sl_dt_want⟩)
    (cc_dt_want : PySem.W.codeIn K cd_dt_want "dt_want" = true)
    (kp_dt_want : PySem.W.keepIn K (.ref f_dt_want) = true)
    (a_dt_grant : PySem.W.nsIn K mainGlobals "dt_grant" = some (some (.ref f_dt_grant)))
    (l_dt_grant : K.lookup f_dt_grant = some ⟨oc_dt_grant, od_dt_grant, .func (PySem.W.fnOf "dt_grant" "dt_grant" (defArgs s_dt_grant) (defBody s_dt_grant) (defScope s_dt_grant) .none kV_dt_grant doc_dt_grant pm_dt_grant an_dt_grant cd_dt_grant ct_dt_grant), sl_dt_grant⟩)
    (cc_dt_grant : PySem.W.codeIn K cd_dt_grant "dt_grant" = true)
    (kp_dt_grant : PySem.W.keepIn K (.ref f_dt_grant) = true)
    (a_dt_suspect : PySem.W.nsIn K mainGlobals "dt_suspect" = some (some (.ref f_dt_suspect)))
    (l_dt_suspect : K.lookup f_dt_suspect = some ⟨oc_dt_suspect, od_dt_suspect, .func (PySem.W.fnOf "dt_suspect" "dt_suspect" (defArgs s_dt_suspect) (defBody s_dt_suspect) (defScope s_dt_suspect) .none kV_dt_suspect doc_dt_suspect pm_dt_suspect an_dt_suspect cd_dt_suspect ct_dt_suspect), sl_dt_suspect⟩)
    (cc_dt_suspect : PySem.W.codeIn K cd_dt_suspect "dt_suspect" = true)
    (kp_dt_suspect : PySem.W.keepIn K (.ref f_dt_suspect) = true)
    (a_dt_message : PySem.W.nsIn K mainGlobals "dt_message" = some (some (.ref f_dt_message)))
    (l_dt_message : K.lookup f_dt_message = some ⟨oc_dt_message, od_dt_message, .func (PySem.W.fnOf "dt_message" "dt_message" (defArgs s_dt_message) (defBody s_dt_message) (defScope s_dt_message) .none kV_dt_message doc_dt_message pm_dt_message an_dt_message cd_dt_message ct_dt_message), sl_dt_message⟩)
    (cc_dt_message : PySem.W.codeIn K cd_dt_message "dt_message" = true)
    (kp_dt_message : PySem.W.keepIn K (.ref f_dt_message) = true)
    (a_take_first : PySem.W.nsIn K mainGlobals "take_first" = some (some (.ref f_take_first)))
    (l_take_first : K.lookup f_take_first = some ⟨oc_take_first, od_take_first, .func (PySem.W.fnOf "take_first" "take_first" (defArgs s_take_first) (defBody s_take_first) (defScope s_take_first) .none kV_take_first doc_take_first pm_take_first an_take_first cd_take_first ct_take_first), sl_take_first⟩)
    (cc_take_first : PySem.W.codeIn K cd_take_first "take_first" = true)
    (kp_take_first : PySem.W.keepIn K (.ref f_take_first) = true)
    (a_dt_output : PySem.W.nsIn K mainGlobals "dt_output" = some (some (.ref f_dt_output)))
    (l_dt_output : K.lookup f_dt_output = some ⟨oc_dt_output, od_dt_output, .func (PySem.W.fnOf "dt_output" "dt_output" (defArgs s_dt_output) (defBody s_dt_output) (defScope s_dt_output) .none kV_dt_output doc_dt_output pm_dt_output an_dt_output cd_dt_output ct_dt_output), sl_dt_output⟩)
    (cc_dt_output : PySem.W.codeIn K cd_dt_output "dt_output" = true)
    (kp_dt_output : PySem.W.keepIn K (.ref f_dt_output) = true)
    (a_dt_take : PySem.W.nsIn K mainGlobals "dt_take" = some (some (.ref f_dt_take)))
    (l_dt_take : K.lookup f_dt_take = some ⟨oc_dt_take, od_dt_take, .func (PySem.W.fnOf "dt_take" "dt_take" (defArgs s_dt_take) (defBody s_dt_take) (defScope s_dt_take) .none kV_dt_take doc_dt_take pm_dt_take an_dt_take cd_dt_take ct_dt_take), sl_dt_take⟩)
    (cc_dt_take : PySem.W.codeIn K cd_dt_take "dt_take" = true)
    (kp_dt_take : PySem.W.keepIn K (.ref f_dt_take) = true)
    (a_dt_cut : PySem.W.nsIn K mainGlobals "dt_cut" = some (some (.ref f_dt_cut)))
    (l_dt_cut : K.lookup f_dt_cut = some ⟨oc_dt_cut, od_dt_cut, .func (PySem.W.fnOf "dt_cut" "dt_cut" (defArgs s_dt_cut) (defBody s_dt_cut) (defScope s_dt_cut) .none kV_dt_cut doc_dt_cut pm_dt_cut an_dt_cut cd_dt_cut ct_dt_cut), sl_dt_cut⟩)
    (cc_dt_cut : PySem.W.codeIn K cd_dt_cut "dt_cut" = true)
    (kp_dt_cut : PySem.W.keepIn K (.ref f_dt_cut) = true)
    (a_as_bits : PySem.W.nsIn K mainGlobals "as_bits" = some (some (.ref f_as_bits)))
    (l_as_bits : K.lookup f_as_bits = some ⟨oc_as_bits, od_as_bits, .func (PySem.W.fnOf "as_bits" "as_bits" (defArgs s_as_bits) (defBody s_as_bits) (defScope s_as_bits) .none kV_as_bits doc_as_bits pm_as_bits an_as_bits cd_as_bits ct_as_bits), sl_as_bits⟩)
    (cc_as_bits : PySem.W.codeIn K cd_as_bits "as_bits" = true)
    (kp_as_bits : PySem.W.keepIn K (.ref f_as_bits) = true)
    (a_dt_told : PySem.W.nsIn K mainGlobals "dt_told" = some (some (.ref f_dt_told)))
    (l_dt_told : K.lookup f_dt_told = some ⟨oc_dt_told, od_dt_told, .func (PySem.W.fnOf "dt_told" "dt_told" (defArgs s_dt_told) (defBody s_dt_told) (defScope s_dt_told) .none kV_dt_told doc_dt_told pm_dt_told an_dt_told cd_dt_told ct_dt_told), sl_dt_told⟩)
    (cc_dt_told : PySem.W.codeIn K cd_dt_told "dt_told" = true)
    (kp_dt_told : PySem.W.keepIn K (.ref f_dt_told) = true)
    (a_Token_init : PySem.W.findIn K (.ref c_Token) "__init__" = some (some (.ref f_Token_init)))
    (i_Token_init : PySem.W.isFn K (.ref f_Token_init) = true)
    (l_Token_init : K.lookup f_Token_init = some ⟨oc_Token_init, od_Token_init, .func (PySem.W.fnOf "__init__" "Token.__init__" (defArgs s_Token_init) (defBody s_Token_init) (defScope s_Token_init) .none kV_Token_init doc_Token_init pm_Token_init an_Token_init cd_Token_init ct_Token_init), sl_Token_init⟩)
    (cc_Token_init : PySem.W.codeIn K cd_Token_init "Token.__init__" = true)
    (kp_Token_init : PySem.W.keepIn K (.ref f_Token_init) = true)
    (a_Recording_init : PySem.W.findIn K (.ref c_Recording) "__init__" = some (some (.ref f_Recording_init)))
    (i_Recording_init : PySem.W.isFn K (.ref f_Recording_init) = true)
    (l_Recording_init : K.lookup f_Recording_init = some ⟨oc_Recording_init, od_Recording_init, .func (PySem.W.fnOf "__init__" "Recording.__init__" (defArgs s_Recording_init) (defBody s_Recording_init) (defScope s_Recording_init) .none kV_Recording_init doc_Recording_init pm_Recording_init an_Recording_init cd_Recording_init ct_Recording_init), sl_Recording_init⟩)
    (cc_Recording_init : PySem.W.codeIn K cd_Recording_init "Recording.__init__" = true)
    (kp_Recording_init : PySem.W.keepIn K (.ref f_Recording_init) = true)
    (a_Recording_put_work : PySem.W.findIn K (.ref c_Recording) "put_work" = some (some (.ref f_Recording_put_work)))
    (i_Recording_put_work : PySem.W.isFn K (.ref f_Recording_put_work) = true)
    (l_Recording_put_work : K.lookup f_Recording_put_work = some ⟨oc_Recording_put_work, od_Recording_put_work, .func (PySem.W.fnOf "put_work" "Recording.put_work" (defArgs s_Recording_put_work) (defBody s_Recording_put_work) (defScope s_Recording_put_work) .none kV_Recording_put_work doc_Recording_put_work pm_Recording_put_work an_Recording_put_work cd_Recording_put_work ct_Recording_put_work), sl_Recording_put_work⟩)
    (cc_Recording_put_work : PySem.W.codeIn K cd_Recording_put_work "Recording.put_work" = true)
    (kp_Recording_put_work : PySem.W.keepIn K (.ref f_Recording_put_work) = true)
    (a_Host_init : PySem.W.findIn K (.ref c_Host) "__init__" = some (some (.ref f_Host_init)))
    (i_Host_init : PySem.W.isFn K (.ref f_Host_init) = true)
    (l_Host_init : K.lookup f_Host_init = some ⟨oc_Host_init, od_Host_init, .func (PySem.W.fnOf "__init__" "Host.__init__" (defArgs s_Host_init) (defBody s_Host_init) (defScope s_Host_init) .none kV_Host_init doc_Host_init pm_Host_init an_Host_init cd_Host_init ct_Host_init), sl_Host_init⟩)
    (cc_Host_init : PySem.W.codeIn K cd_Host_init "Host.__init__" = true)
    (kp_Host_init : PySem.W.keepIn K (.ref f_Host_init) = true)
    (a_Host_begin : PySem.W.findIn K (.ref c_Host) "begin" = some (some (.ref f_Host_begin)))
    (i_Host_begin : PySem.W.isFn K (.ref f_Host_begin) = true)
    (l_Host_begin : K.lookup f_Host_begin = some ⟨oc_Host_begin, od_Host_begin, .func (PySem.W.fnOf "begin" "Host.begin" (defArgs s_Host_begin) (defBody s_Host_begin) (defScope s_Host_begin) .none kV_Host_begin doc_Host_begin pm_Host_begin an_Host_begin cd_Host_begin ct_Host_begin), sl_Host_begin⟩)
    (cc_Host_begin : PySem.W.codeIn K cd_Host_begin "Host.begin" = true)
    (kp_Host_begin : PySem.W.keepIn K (.ref f_Host_begin) = true)
    (a_Host_is_busy : PySem.W.findIn K (.ref c_Host) "is_busy" = some (some (.ref f_Host_is_busy)))
    (i_Host_is_busy : PySem.W.isFn K (.ref f_Host_is_busy) = true)
    (l_Host_is_busy : K.lookup f_Host_is_busy = some ⟨oc_Host_is_busy, od_Host_is_busy, .func (PySem.W.fnOf "is_busy" "Host.is_busy" (defArgs s_Host_is_busy) (defBody s_Host_is_busy) (defScope s_Host_is_busy) .none kV_Host_is_busy doc_Host_is_busy pm_Host_is_busy an_Host_is_busy cd_Host_is_busy ct_Host_is_busy), sl_Host_is_busy⟩)
    (cc_Host_is_busy : PySem.W.codeIn K cd_Host_is_busy "Host.is_busy" = true)
    (kp_Host_is_busy : PySem.W.keepIn K (.ref f_Host_is_busy) = true)
    (a_Host_is_other : PySem.W.findIn K (.ref c_Host) "is_other" = some (some (.ref f_Host_is_other)))
    (i_Host_is_other : PySem.W.isFn K (.ref f_Host_is_other) = true)
    (l_Host_is_other : K.lookup f_Host_is_other = some ⟨oc_Host_is_other, od_Host_is_other, .func (PySem.W.fnOf "is_other" "Host.is_other" (defArgs s_Host_is_other) (defBody s_Host_is_other) (defScope s_Host_is_other) .none kV_Host_is_other doc_Host_is_other pm_Host_is_other an_Host_is_other cd_Host_is_other ct_Host_is_other), sl_Host_is_other⟩)
    (cc_Host_is_other : PySem.W.codeIn K cd_Host_is_other "Host.is_other" = true)
    (kp_Host_is_other : PySem.W.keepIn K (.ref f_Host_is_other) = true)
    (a_Host_send : PySem.W.findIn K (.ref c_Host) "send" = some (some (.ref f_Host_send)))
    (i_Host_send : PySem.W.isFn K (.ref f_Host_send) = true)
    (l_Host_send : K.lookup f_Host_send = some ⟨oc_Host_send, od_Host_send, .func (PySem.W.fnOf "send" "Host.send" (defArgs s_Host_send) (defBody s_Host_send) (defScope s_Host_send) .none kV_Host_send doc_Host_send pm_Host_send an_Host_send cd_Host_send ct_Host_send), sl_Host_send⟩)
    (cc_Host_send : PySem.W.codeIn K cd_Host_send "Host.send" = true)
    (kp_Host_send : PySem.W.keepIn K (.ref f_Host_send) = true)
    (a_Host_send_to_all : PySem.W.findIn K (.ref c_Host) "send_to_all" = some (some (.ref f_Host_send_to_all)))
    (i_Host_send_to_all : PySem.W.isFn K (.ref f_Host_send_to_all) = true)
    (l_Host_send_to_all : K.lookup f_Host_send_to_all = some ⟨oc_Host_send_to_all, od_Host_send_to_all, .func (PySem.W.fnOf "send_to_all" "Host.send_to_all" (defArgs s_Host_send_to_all) (defBody s_Host_send_to_all) (defScope s_Host_send_to_all) .none kV_Host_send_to_all doc_Host_send_to_all pm_Host_send_to_all an_Host_send_to_all cd_Host_send_to_all ct_Host_send_to_all), sl_Host_send_to_all⟩)
    (cc_Host_send_to_all : PySem.W.codeIn K cd_Host_send_to_all "Host.send_to_all" = true)
    (kp_Host_send_to_all : PySem.W.keepIn K (.ref f_Host_send_to_all) = true)
    (a_Host_send_work : PySem.W.findIn K (.ref c_Host) "send_work" = some (some (.ref f_Host_send_work)))
    (i_Host_send_work : PySem.W.isFn K (.ref f_Host_send_work) = true)
    (l_Host_send_work : K.lookup f_Host_send_work = some ⟨oc_Host_send_work, od_Host_send_work, .func (PySem.W.fnOf "send_work" "Host.send_work" (defArgs s_Host_send_work) (defBody s_Host_send_work) (defScope s_Host_send_work) .none kV_Host_send_work doc_Host_send_work pm_Host_send_work an_Host_send_work cd_Host_send_work ct_Host_send_work), sl_Host_send_work⟩)
    (cc_Host_send_work : PySem.W.codeIn K cd_Host_send_work "Host.send_work" = true)
    (kp_Host_send_work : PySem.W.keepIn K (.ref f_Host_send_work) = true)
    (a_Host_work_comes : PySem.W.findIn K (.ref c_Host) "work_comes" = some (some (.ref f_Host_work_comes)))
    (i_Host_work_comes : PySem.W.isFn K (.ref f_Host_work_comes) = true)
    (l_Host_work_comes : K.lookup f_Host_work_comes = some ⟨oc_Host_work_comes, od_Host_work_comes, .func (PySem.W.fnOf "work_comes" "Host.work_comes" (defArgs s_Host_work_comes) (defBody s_Host_work_comes) (defScope s_Host_work_comes) .none kV_Host_work_comes doc_Host_work_comes pm_Host_work_comes an_Host_work_comes cd_Host_work_comes ct_Host_work_comes), sl_Host_work_comes⟩)
    (cc_Host_work_comes : PySem.W.codeIn K cd_Host_work_comes "Host.work_comes" = true)
    (kp_Host_work_comes : PySem.W.keepIn K (.ref f_Host_work_comes) = true)
    (a_Host_become_idle : PySem.W.findIn K (.ref c_Host) "become_idle" = some (some (.ref f_Host_become_idle)))
    (i_Host_become_idle : PySem.W.isFn K (.ref f_Host_become_idle) = true)
    (l_Host_become_idle : K.lookup f_Host_become_idle = some ⟨oc_Host_become_idle, od_Host_become_idle, .func (PySem.W.fnOf "become_idle" "Host.become_idle" (defArgs s_Host_become_idle) (defBody s_Host_become_idle) (defScope s_Host_become_idle) .none kV_Host_become_idle doc_Host_become_idle pm_Host_become_idle an_Host_become_idle cd_Host_become_idle ct_Host_become_idle), sl_Host_become_idle⟩)
    (cc_Host_become_idle : PySem.W.codeIn K cd_Host_become_idle "Host.become_idle" = true)
    (kp_Host_become_idle : PySem.W.keepIn K (.ref f_Host_become_idle) = true)
    (a_Host_watch : PySem.W.findIn K (.ref c_Host) "watch" = some (some (.ref f_Host_watch)))
    (i_Host_watch : PySem.W.isFn K (.ref f_Host_watch) = true)
    (l_Host_watch : K.lookup f_Host_watch = some ⟨oc_Host_watch, od_Host_watch, .func (PySem.W.fnOf "watch" "Host.watch" (defArgs s_Host_watch) (defBody s_Host_watch) (defScope s_Host_watch) .none kV_Host_watch doc_Host_watch pm_Host_watch an_Host_watch cd_Host_watch ct_Host_watch), sl_Host_watch⟩)
    (cc_Host_watch : PySem.W.codeIn K cd_Host_watch "Host.watch" = true)
    (kp_Host_watch : PySem.W.keepIn K (.ref f_Host_watch) = true)
    (a_Host_token_comes : PySem.W.findIn K (.ref c_Host) "token_comes" = some (some (.ref f_Host_token_comes)))
    (i_Host_token_comes : PySem.W.isFn K (.ref f_Host_token_comes) = true)
    (l_Host_token_comes : K.lookup f_Host_token_comes = some ⟨oc_Host_token_comes, od_Host_token_comes, .func (PySem.W.fnOf "token_comes" "Host.token_comes" (defArgs s_Host_token_comes) (defBody s_Host_token_comes) (defScope s_Host_token_comes) .none kV_Host_token_comes doc_Host_token_comes pm_Host_token_comes an_Host_token_comes cd_Host_token_comes ct_Host_token_comes), sl_Host_token_comes⟩)
    (cc_Host_token_comes : PySem.W.codeIn K cd_Host_token_comes "Host.token_comes" = true)
    (kp_Host_token_comes : PySem.W.keepIn K (.ref f_Host_token_comes) = true)
    (a_Host_pass_token : PySem.W.findIn K (.ref c_Host) "pass_token" = some (some (.ref f_Host_pass_token)))
    (i_Host_pass_token : PySem.W.isFn K (.ref f_Host_pass_token) = true)
    (l_Host_pass_token : K.lookup f_Host_pass_token = some ⟨oc_Host_pass_token, od_Host_pass_token, .func (PySem.W.fnOf "pass_token" "Host.pass_token" (defArgs s_Host_pass_token) (defBody s_Host_pass_token) (defScope s_Host_pass_token) .none kV_Host_pass_token doc_Host_pass_token pm_Host_pass_token an_Host_pass_token cd_Host_pass_token ct_Host_pass_token), sl_Host_pass_token⟩)
    (cc_Host_pass_token : PySem.W.codeIn K cd_Host_pass_token "Host.pass_token" = true)
    (kp_Host_pass_token : PySem.W.keepIn K (.ref f_Host_pass_token) = true)
    (a_Host_last_cut_is_whole : PySem.W.findIn K (.ref c_Host) "last_cut_is_whole" = some (some (.ref f_Host_last_cut_is_whole)))
    (i_Host_last_cut_is_whole : PySem.W.isFn K (.ref f_Host_last_cut_is_whole) = true)
    (l_Host_last_cut_is_whole : K.lookup f_Host_last_cut_is_whole = some ⟨oc_Host_last_cut_is_whole, od_Host_last_cut_is_whole, .func (PySem.W.fnOf "last_cut_is_whole" "Host.last_cut_is_whole" (defArgs s_Host_last_cut_is_whole) (defBody s_Host_last_cut_is_whole) (defScope s_Host_last_cut_is_whole) .none kV_Host_last_cut_is_whole doc_Host_last_cut_is_whole pm_Host_last_cut_is_whole an_Host_last_cut_is_whole cd_Host_last_cut_is_whole ct_Host_last_cut_is_whole), sl_Host_last_cut_is_whole⟩)
    (cc_Host_last_cut_is_whole : PySem.W.codeIn K cd_Host_last_cut_is_whole "Host.last_cut_is_whole" = true)
    (kp_Host_last_cut_is_whole : PySem.W.keepIn K (.ref f_Host_last_cut_is_whole) = true)
    (a_Host_begin_cut : PySem.W.findIn K (.ref c_Host) "begin_cut" = some (some (.ref f_Host_begin_cut)))
    (i_Host_begin_cut : PySem.W.isFn K (.ref f_Host_begin_cut) = true)
    (l_Host_begin_cut : K.lookup f_Host_begin_cut = some ⟨oc_Host_begin_cut, od_Host_begin_cut, .func (PySem.W.fnOf "begin_cut" "Host.begin_cut" (defArgs s_Host_begin_cut) (defBody s_Host_begin_cut) (defScope s_Host_begin_cut) .none kV_Host_begin_cut doc_Host_begin_cut pm_Host_begin_cut an_Host_begin_cut cd_Host_begin_cut ct_Host_begin_cut), sl_Host_begin_cut⟩)
    (cc_Host_begin_cut : PySem.W.codeIn K cd_Host_begin_cut "Host.begin_cut" = true)
    (kp_Host_begin_cut : PySem.W.keepIn K (.ref f_Host_begin_cut) = true)
    (a_Host_begin_recording : PySem.W.findIn K (.ref c_Host) "begin_recording" = some (some (.ref f_Host_begin_recording)))
    (i_Host_begin_recording : PySem.W.isFn K (.ref f_Host_begin_recording) = true)
    (l_Host_begin_recording : K.lookup f_Host_begin_recording = some ⟨oc_Host_begin_recording, od_Host_begin_recording, .func (PySem.W.fnOf "begin_recording" "Host.begin_recording" (defArgs s_Host_begin_recording) (defBody s_Host_begin_recording) (defScope s_Host_begin_recording) .none kV_Host_begin_recording doc_Host_begin_recording pm_Host_begin_recording an_Host_begin_recording cd_Host_begin_recording ct_Host_begin_recording), sl_Host_begin_recording⟩)
    (cc_Host_begin_recording : PySem.W.codeIn K cd_Host_begin_recording "Host.begin_recording" = true)
    (kp_Host_begin_recording : PySem.W.keepIn K (.ref f_Host_begin_recording) = true)
    (a_Host_marker_comes : PySem.W.findIn K (.ref c_Host) "marker_comes" = some (some (.ref f_Host_marker_comes)))
    (i_Host_marker_comes : PySem.W.isFn K (.ref f_Host_marker_comes) = true)
    (l_Host_marker_comes : K.lookup f_Host_marker_comes = some ⟨oc_Host_marker_comes, od_Host_marker_comes, .func (PySem.W.fnOf "marker_comes" "Host.marker_comes" (defArgs s_Host_marker_comes) (defBody s_Host_marker_comes) (defScope s_Host_marker_comes) .none kV_Host_marker_comes doc_Host_marker_comes pm_Host_marker_comes an_Host_marker_comes cd_Host_marker_comes ct_Host_marker_comes), sl_Host_marker_comes⟩)
    (cc_Host_marker_comes : PySem.W.codeIn K cd_Host_marker_comes "Host.marker_comes" = true)
    (kp_Host_marker_comes : PySem.W.keepIn K (.ref f_Host_marker_comes) = true)
    (a_Host_end_recording_if_done : PySem.W.findIn K (.ref c_Host) "end_recording_if_done" = some (some (.ref f_Host_end_recording_if_done)))
    (i_Host_end_recording_if_done : PySem.W.isFn K (.ref f_Host_end_recording_if_done) = true)
    (l_Host_end_recording_if_done : K.lookup f_Host_end_recording_if_done = some ⟨oc_Host_end_recording_if_done, od_Host_end_recording_if_done, .func (PySem.W.fnOf "end_recording_if_done" "Host.end_recording_if_done" (defArgs s_Host_end_recording_if_done) (defBody s_Host_end_recording_if_done) (defScope s_Host_end_recording_if_done) .none kV_Host_end_recording_if_done doc_Host_end_recording_if_done pm_Host_end_recording_if_done an_Host_end_recording_if_done cd_Host_end_recording_if_done ct_Host_end_recording_if_done), sl_Host_end_recording_if_done⟩)
    (cc_Host_end_recording_if_done : PySem.W.codeIn K cd_Host_end_recording_if_done "Host.end_recording_if_done" = true)
    (kp_Host_end_recording_if_done : PySem.W.keepIn K (.ref f_Host_end_recording_if_done) = true)
    (a_Host_record_comes : PySem.W.findIn K (.ref c_Host) "record_comes" = some (some (.ref f_Host_record_comes)))
    (i_Host_record_comes : PySem.W.isFn K (.ref f_Host_record_comes) = true)
    (l_Host_record_comes : K.lookup f_Host_record_comes = some ⟨oc_Host_record_comes, od_Host_record_comes, .func (PySem.W.fnOf "record_comes" "Host.record_comes" (defArgs s_Host_record_comes) (defBody s_Host_record_comes) (defScope s_Host_record_comes) .none kV_Host_record_comes doc_Host_record_comes pm_Host_record_comes an_Host_record_comes cd_Host_record_comes ct_Host_record_comes), sl_Host_record_comes⟩)
    (cc_Host_record_comes : PySem.W.codeIn K cd_Host_record_comes "Host.record_comes" = true)
    (kp_Host_record_comes : PySem.W.keepIn K (.ref f_Host_record_comes) = true)
    (a_Host_cut_bytes : PySem.W.findIn K (.ref c_Host) "cut_bytes" = some (some (.ref f_Host_cut_bytes)))
    (i_Host_cut_bytes : PySem.W.isFn K (.ref f_Host_cut_bytes) = true)
    (l_Host_cut_bytes : K.lookup f_Host_cut_bytes = some ⟨oc_Host_cut_bytes, od_Host_cut_bytes, .func (PySem.W.fnOf "cut_bytes" "Host.cut_bytes" (defArgs s_Host_cut_bytes) (defBody s_Host_cut_bytes) (defScope s_Host_cut_bytes) .none kV_Host_cut_bytes doc_Host_cut_bytes pm_Host_cut_bytes an_Host_cut_bytes cd_Host_cut_bytes ct_Host_cut_bytes), sl_Host_cut_bytes⟩)
    (cc_Host_cut_bytes : PySem.W.codeIn K cd_Host_cut_bytes "Host.cut_bytes" = true)
    (kp_Host_cut_bytes : PySem.W.keepIn K (.ref f_Host_cut_bytes) = true)
    (a_Host_is_blocked : PySem.W.findIn K (.ref c_Host) "is_blocked" = some (some (.ref f_Host_is_blocked)))
    (i_Host_is_blocked : PySem.W.isFn K (.ref f_Host_is_blocked) = true)
    (l_Host_is_blocked : K.lookup f_Host_is_blocked = some ⟨oc_Host_is_blocked, od_Host_is_blocked, .func (PySem.W.fnOf "is_blocked" "Host.is_blocked" (defArgs s_Host_is_blocked) (defBody s_Host_is_blocked) (defScope s_Host_is_blocked) .none kV_Host_is_blocked doc_Host_is_blocked pm_Host_is_blocked an_Host_is_blocked cd_Host_is_blocked ct_Host_is_blocked), sl_Host_is_blocked⟩)
    (cc_Host_is_blocked : PySem.W.codeIn K cd_Host_is_blocked "Host.is_blocked" = true)
    (kp_Host_is_blocked : PySem.W.keepIn K (.ref f_Host_is_blocked) = true)
    (a_Host_want : PySem.W.findIn K (.ref c_Host) "want" = some (some (.ref f_Host_want)))
    (i_Host_want : PySem.W.isFn K (.ref f_Host_want) = true)
    (l_Host_want : K.lookup f_Host_want = some ⟨oc_Host_want, od_Host_want, .func (PySem.W.fnOf "want" "Host.want" (defArgs s_Host_want) (defBody s_Host_want) (defScope s_Host_want) .none kV_Host_want doc_Host_want pm_Host_want an_Host_want cd_Host_want ct_Host_want), sl_Host_want⟩)
    (cc_Host_want : PySem.W.codeIn K cd_Host_want "Host.want" = true)
    (kp_Host_want : PySem.W.keepIn K (.ref f_Host_want) = true)
    (a_Host_want_comes : PySem.W.findIn K (.ref c_Host) "want_comes" = some (some (.ref f_Host_want_comes)))
    (i_Host_want_comes : PySem.W.isFn K (.ref f_Host_want_comes) = true)
    (l_Host_want_comes : K.lookup f_Host_want_comes = some ⟨oc_Host_want_comes, od_Host_want_comes, .func (PySem.W.fnOf "want_comes" "Host.want_comes" (defArgs s_Host_want_comes) (defBody s_Host_want_comes) (defScope s_Host_want_comes) .none kV_Host_want_comes doc_Host_want_comes pm_Host_want_comes an_Host_want_comes cd_Host_want_comes ct_Host_want_comes), sl_Host_want_comes⟩)
    (cc_Host_want_comes : PySem.W.codeIn K cd_Host_want_comes "Host.want_comes" = true)
    (kp_Host_want_comes : PySem.W.keepIn K (.ref f_Host_want_comes) = true)
    (a_Host_grant : PySem.W.findIn K (.ref c_Host) "grant" = some (some (.ref f_Host_grant)))
    (i_Host_grant : PySem.W.isFn K (.ref f_Host_grant) = true)
    (l_Host_grant : K.lookup f_Host_grant = some ⟨oc_Host_grant, od_Host_grant, .func (PySem.W.fnOf "grant" "Host.grant" (defArgs s_Host_grant) (defBody s_Host_grant) (defScope s_Host_grant) .none kV_Host_grant doc_Host_grant pm_Host_grant an_Host_grant cd_Host_grant ct_Host_grant), sl_Host_grant⟩)
    (cc_Host_grant : PySem.W.codeIn K cd_Host_grant "Host.grant" = true)
    (kp_Host_grant : PySem.W.keepIn K (.ref f_Host_grant) = true)
    (a_Host_grant_comes : PySem.W.findIn K (.ref c_Host) "grant_comes" = some (some (.ref f_Host_grant_comes)))
    (i_Host_grant_comes : PySem.W.isFn K (.ref f_Host_grant_comes) = true)
    (l_Host_grant_comes : K.lookup f_Host_grant_comes = some ⟨oc_Host_grant_comes, od_Host_grant_comes, .func (PySem.W.fnOf "grant_comes" "Host.grant_comes" (defArgs s_Host_grant_comes) (defBody s_Host_grant_comes) (defScope s_Host_grant_comes) .none kV_Host_grant_comes doc_Host_grant_comes pm_Host_grant_comes an_Host_grant_comes cd_Host_grant_comes ct_Host_grant_comes), sl_Host_grant_comes⟩)
    (cc_Host_grant_comes : PySem.W.codeIn K cd_Host_grant_comes "Host.grant_comes" = true)
    (kp_Host_grant_comes : PySem.W.keepIn K (.ref f_Host_grant_comes) = true)
    (a_Host_suspect : PySem.W.findIn K (.ref c_Host) "suspect" = some (some (.ref f_Host_suspect)))
    (i_Host_suspect : PySem.W.isFn K (.ref f_Host_suspect) = true)
    (l_Host_suspect : K.lookup f_Host_suspect = some ⟨oc_Host_suspect, od_Host_suspect, .func (PySem.W.fnOf "suspect" "Host.suspect" (defArgs s_Host_suspect) (defBody s_Host_suspect) (defScope s_Host_suspect) .none kV_Host_suspect doc_Host_suspect pm_Host_suspect an_Host_suspect cd_Host_suspect ct_Host_suspect), sl_Host_suspect⟩)
    (cc_Host_suspect : PySem.W.codeIn K cd_Host_suspect "Host.suspect" = true)
    (kp_Host_suspect : PySem.W.keepIn K (.ref f_Host_suspect) = true)
    (a_Host_send_probe : PySem.W.findIn K (.ref c_Host) "send_probe" = some (some (.ref f_Host_send_probe)))
    (i_Host_send_probe : PySem.W.isFn K (.ref f_Host_send_probe) = true)
    (l_Host_send_probe : K.lookup f_Host_send_probe = some ⟨oc_Host_send_probe, od_Host_send_probe, .func (PySem.W.fnOf "send_probe" "Host.send_probe" (defArgs s_Host_send_probe) (defBody s_Host_send_probe) (defScope s_Host_send_probe) .none kV_Host_send_probe doc_Host_send_probe pm_Host_send_probe an_Host_send_probe cd_Host_send_probe ct_Host_send_probe), sl_Host_send_probe⟩)
    (cc_Host_send_probe : PySem.W.codeIn K cd_Host_send_probe "Host.send_probe" = true)
    (kp_Host_send_probe : PySem.W.keepIn K (.ref f_Host_send_probe) = true)
    (a_Host_probe_comes : PySem.W.findIn K (.ref c_Host) "probe_comes" = some (some (.ref f_Host_probe_comes)))
    (i_Host_probe_comes : PySem.W.isFn K (.ref f_Host_probe_comes) = true)
    (l_Host_probe_comes : K.lookup f_Host_probe_comes = some ⟨oc_Host_probe_comes, od_Host_probe_comes, .func (PySem.W.fnOf "probe_comes" "Host.probe_comes" (defArgs s_Host_probe_comes) (defBody s_Host_probe_comes) (defScope s_Host_probe_comes) .none kV_Host_probe_comes doc_Host_probe_comes pm_Host_probe_comes an_Host_probe_comes cd_Host_probe_comes ct_Host_probe_comes), sl_Host_probe_comes⟩)
    (cc_Host_probe_comes : PySem.W.codeIn K cd_Host_probe_comes "Host.probe_comes" = true)
    (kp_Host_probe_comes : PySem.W.keepIn K (.ref f_Host_probe_comes) = true)
    (a_Reader_init : PySem.W.findIn K (.ref c_Reader) "__init__" = some (some (.ref f_Reader_init)))
    (i_Reader_init : PySem.W.isFn K (.ref f_Reader_init) = true)
    (l_Reader_init : K.lookup f_Reader_init = some ⟨oc_Reader_init, od_Reader_init, .func (PySem.W.fnOf "__init__" "Reader.__init__" (defArgs s_Reader_init) (defBody s_Reader_init) (defScope s_Reader_init) .none kV_Reader_init doc_Reader_init pm_Reader_init an_Reader_init cd_Reader_init ct_Reader_init), sl_Reader_init⟩)
    (cc_Reader_init : PySem.W.codeIn K cd_Reader_init "Reader.__init__" = true)
    (kp_Reader_init : PySem.W.keepIn K (.ref f_Reader_init) = true)
    (a_Reader_has_more : PySem.W.findIn K (.ref c_Reader) "has_more" = some (some (.ref f_Reader_has_more)))
    (i_Reader_has_more : PySem.W.isFn K (.ref f_Reader_has_more) = true)
    (l_Reader_has_more : K.lookup f_Reader_has_more = some ⟨oc_Reader_has_more, od_Reader_has_more, .func (PySem.W.fnOf "has_more" "Reader.has_more" (defArgs s_Reader_has_more) (defBody s_Reader_has_more) (defScope s_Reader_has_more) .none kV_Reader_has_more doc_Reader_has_more pm_Reader_has_more an_Reader_has_more cd_Reader_has_more ct_Reader_has_more), sl_Reader_has_more⟩)
    (cc_Reader_has_more : PySem.W.codeIn K cd_Reader_has_more "Reader.has_more" = true)
    (kp_Reader_has_more : PySem.W.keepIn K (.ref f_Reader_has_more) = true)
    (a_Reader_take_number : PySem.W.findIn K (.ref c_Reader) "take_number" = some (some (.ref f_Reader_take_number)))
    (i_Reader_take_number : PySem.W.isFn K (.ref f_Reader_take_number) = true)
    (l_Reader_take_number : K.lookup f_Reader_take_number = some ⟨oc_Reader_take_number, od_Reader_take_number, .func (PySem.W.fnOf "take_number" "Reader.take_number" (defArgs s_Reader_take_number) (defBody s_Reader_take_number) (defScope s_Reader_take_number) .none kV_Reader_take_number doc_Reader_take_number pm_Reader_take_number an_Reader_take_number cd_Reader_take_number ct_Reader_take_number), sl_Reader_take_number⟩)
    (cc_Reader_take_number : PySem.W.codeIn K cd_Reader_take_number "Reader.take_number" = true)
    (kp_Reader_take_number : PySem.W.keepIn K (.ref f_Reader_take_number) = true)
    (a_Reader_take_row : PySem.W.findIn K (.ref c_Reader) "take_row" = some (some (.ref f_Reader_take_row)))
    (i_Reader_take_row : PySem.W.isFn K (.ref f_Reader_take_row) = true)
    (l_Reader_take_row : K.lookup f_Reader_take_row = some ⟨oc_Reader_take_row, od_Reader_take_row, .func (PySem.W.fnOf "take_row" "Reader.take_row" (defArgs s_Reader_take_row) (defBody s_Reader_take_row) (defScope s_Reader_take_row) .none kV_Reader_take_row doc_Reader_take_row pm_Reader_take_row an_Reader_take_row cd_Reader_take_row ct_Reader_take_row), sl_Reader_take_row⟩)
    (cc_Reader_take_row : PySem.W.codeIn K cd_Reader_take_row "Reader.take_row" = true)
    (kp_Reader_take_row : PySem.W.keepIn K (.ref f_Reader_take_row) = true)
    (a_answer_one : PySem.W.nsIn K mainGlobals "answer_one" = some (some (.ref f_answer_one)))
    (l_answer_one : K.lookup f_answer_one = some ⟨oc_answer_one, od_answer_one, .func (PySem.W.fnOf "answer_one" "answer_one" (defArgs s_answer_one) (defBody s_answer_one) (defScope s_answer_one) .none kV_answer_one doc_answer_one pm_answer_one an_answer_one cd_answer_one ct_answer_one), sl_answer_one⟩)
    (cc_answer_one : PySem.W.codeIn K cd_answer_one "answer_one" = true)
    (kp_answer_one : PySem.W.keepIn K (.ref f_answer_one) = true)
    (a_answers_on : PySem.W.nsIn K mainGlobals "answers_on" = some (some (.ref f_answers_on)))
    (l_answers_on : K.lookup f_answers_on = some ⟨oc_answers_on, od_answers_on, .func (PySem.W.fnOf "answers_on" "answers_on" (defArgs s_answers_on) (defBody s_answers_on) (defScope s_answers_on) .none kV_answers_on doc_answers_on pm_answers_on an_answers_on cd_answers_on ct_answers_on), sl_answers_on⟩)
    (cc_answers_on : PySem.W.codeIn K cd_answers_on "answers_on" = true)
    (kp_answers_on : PySem.W.keepIn K (.ref f_answers_on) = true)
    (a_answers : PySem.W.nsIn K mainGlobals "answers" = some (some (.ref f_answers)))
    (l_answers : K.lookup f_answers = some ⟨oc_answers, od_answers, .func (PySem.W.fnOf "answers" "answers" (defArgs s_answers) (defBody s_answers) (defScope s_answers) .none kV_answers doc_answers pm_answers an_answers cd_answers ct_answers), sl_answers⟩)
    (cc_answers : PySem.W.codeIn K cd_answers "answers" = true)
    (kp_answers : PySem.W.keepIn K (.ref f_answers) = true)
    (k_WORK : PySem.W.nsIn K mainGlobals "WORK" = some (some (.int (1) t_WORK)))
    (k_TOKEN : PySem.W.nsIn K mainGlobals "TOKEN" = some (some (.int (2) t_TOKEN)))
    (k_MARKER : PySem.W.nsIn K mainGlobals "MARKER" = some (some (.int (3) t_MARKER)))
    (k_RECORD : PySem.W.nsIn K mainGlobals "RECORD" = some (some (.int (4) t_RECORD)))
    (k_WANT_messages : PySem.W.nsIn K mainGlobals "WANT_messages" = some (some (.int (5) t_WANT_messages)))
    (k_GRANT_messages : PySem.W.nsIn K mainGlobals "GRANT_messages" = some (some (.int (6) t_GRANT_messages)))
    (k_PROBE : PySem.W.nsIn K mainGlobals "PROBE" = some (some (.int (7) t_PROBE)))
    (k_MOST_BYTES : PySem.W.nsIn K mainGlobals "MOST_BYTES" = some (some (.int (64) t_MOST_BYTES)))
    (k_MOST_WORKS : PySem.W.nsIn K mainGlobals "MOST_WORKS" = some (some (.int (64) t_MOST_WORKS)))
    (k_SIX_BYTES : PySem.W.nsIn K mainGlobals "SIX_BYTES" = some (some (.int (6) t_SIX_BYTES)))
    (k_TOO_MUCH_AT : PySem.W.nsIn K mainGlobals "TOO_MUCH_AT" = some (some (.int (5) t_TOO_MUCH_AT)))
    (k_STATE_AT : PySem.W.nsIn K mainGlobals "STATE_AT" = some (some (.int (6) t_STATE_AT)))
    (k_NO_ROOM : PySem.W.nsIn K mainGlobals "NO_ROOM" = some (some (.int (-1) t_NO_ROOM)))
    (k_WRONG : PySem.W.nsIn K mainGlobals "WRONG" = some (some (.int (-2) t_WRONG)))
    (k_NOT_NOW : PySem.W.nsIn K mainGlobals "NOT_NOW" = some (some (.int (-3) t_NOT_NOW)))
    (k_TOO_MANY : PySem.W.nsIn K mainGlobals "TOO_MANY" = some (some (.int (-4) t_TOO_MANY)))
    (k_MOST_HOSTS : PySem.W.nsIn K mainGlobals "MOST_HOSTS" = some (some (.int (16) t_MOST_HOSTS)))
    (k_MOST_MESSAGE : PySem.W.nsIn K mainGlobals "MOST_MESSAGE" = some (some (.int (8192) t_MOST_MESSAGE)))
    (k_MOST_WAITING : PySem.W.nsIn K mainGlobals "MOST_WAITING" = some (some (.int (1024) t_MOST_WAITING)))
    (k_LAST_NUMBER : PySem.W.nsIn K mainGlobals "LAST_NUMBER" = some (some (.int (4294967295) t_LAST_NUMBER)))
    (k_TOLD_BELOW : PySem.W.nsIn K mainGlobals "TOLD_BELOW" = some (some (.int (2147483648) t_TOLD_BELOW)))
    (k_MOST_OUTGOING : PySem.W.nsIn K mainGlobals "MOST_OUTGOING" = some (some (.int (512) t_MOST_OUTGOING)))
    (k_GOES_ROUND_AT : PySem.W.nsIn K mainGlobals "GOES_ROUND_AT" = some (some (.int (4294967296) t_GOES_ROUND_AT)))
    (k_BEGIN : PySem.W.nsIn K mainGlobals "BEGIN" = some (some (.int (0) t_BEGIN)))
    (k_STATE : PySem.W.nsIn K mainGlobals "STATE" = some (some (.int (1) t_STATE)))
    (k_SEND : PySem.W.nsIn K mainGlobals "SEND" = some (some (.int (2) t_SEND)))
    (k_IDLE : PySem.W.nsIn K mainGlobals "IDLE" = some (some (.int (3) t_IDLE)))
    (k_WATCH : PySem.W.nsIn K mainGlobals "WATCH" = some (some (.int (4) t_WATCH)))
    (k_SNAPSHOT : PySem.W.nsIn K mainGlobals "SNAPSHOT" = some (some (.int (5) t_SNAPSHOT)))
    (k_WANT_host : PySem.W.nsIn K mainGlobals "WANT_host" = some (some (.int (6) t_WANT_host)))
    (k_GRANT_host : PySem.W.nsIn K mainGlobals "GRANT_host" = some (some (.int (7) t_GRANT_host)))
    (k_SUSPECT : PySem.W.nsIn K mainGlobals "SUSPECT" = some (some (.int (8) t_SUSPECT)))
    (k_MESSAGE : PySem.W.nsIn K mainGlobals "MESSAGE" = some (some (.int (9) t_MESSAGE)))
    (k_OUTPUT : PySem.W.nsIn K mainGlobals "OUTPUT" = some (some (.int (10) t_OUTPUT)))
    (k_TAKE : PySem.W.nsIn K mainGlobals "TAKE" = some (some (.int (11) t_TAKE)))
    (k_CUT : PySem.W.nsIn K mainGlobals "CUT" = some (some (.int (12) t_CUT)))
    (k_TOLD : PySem.W.nsIn K mainGlobals "TOLD" = some (some (.int (13) t_TOLD)))
    (b_any : PySem.W.nsIn K mainGlobals "any" = some none)
    (b_len : PySem.W.nsIn K mainGlobals "len" = some none)
    (b_list : PySem.W.nsIn K mainGlobals "list" = some none)
    (b_range : PySem.W.nsIn K mainGlobals "range" = some none)
    (b_reversed : PySem.W.nsIn K mainGlobals "reversed" = some none)
    : ∃ A : Adr, Txt K mg A := by
  have F_four_bytes := fun_mk (st := s_four_bytes) l_four_bytes cc_four_bytes kp_four_bytes
  have F_number_at := fun_mk (st := s_number_at) l_number_at cc_number_at kp_number_at
  have F_work_message := fun_mk (st := s_work_message) l_work_message cc_work_message kp_work_message
  have F_token_message := fun_mk (st := s_token_message) l_token_message cc_token_message kp_token_message
  have F_marker_message := fun_mk (st := s_marker_message) l_marker_message cc_marker_message kp_marker_message
  have F_record_message := fun_mk (st := s_record_message) l_record_message cc_record_message kp_record_message
  have F_want_message := fun_mk (st := s_want_message) l_want_message cc_want_message kp_want_message
  have F_grant_message := fun_mk (st := s_grant_message) l_grant_message cc_grant_message kp_grant_message
  have F_probe_message := fun_mk (st := s_probe_message) l_probe_message cc_probe_message kp_probe_message
  have F_record_bytes := fun_mk (st := s_record_bytes) l_record_bytes cc_record_bytes kp_record_bytes
  have F_end_of_row := fun_mk (st := s_end_of_row) l_end_of_row cc_end_of_row kp_end_of_row
  have F_end_of_works := fun_mk (st := s_end_of_works) l_end_of_works cc_end_of_works kp_end_of_works
  have F_is_right_record := fun_mk (st := s_is_right_record) l_is_right_record cc_is_right_record kp_is_right_record
  have F_is_right := fun_mk (st := s_is_right) l_is_right cc_is_right kp_is_right
  have F_message_comes := fun_mk (st := s_message_comes) l_message_comes cc_message_comes kp_message_comes
  have F_dt_begin := fun_mk (st := s_dt_begin) l_dt_begin cc_dt_begin kp_dt_begin
  have F_dt_state := fun_mk (st := s_dt_state) l_dt_state cc_dt_state kp_dt_state
  have F_dt_send := fun_mk (st := s_dt_send) l_dt_send cc_dt_send kp_dt_send
  have F_dt_idle := fun_mk (st := s_dt_idle) l_dt_idle cc_dt_idle kp_dt_idle
  have F_dt_watch := fun_mk (st := s_dt_watch) l_dt_watch cc_dt_watch kp_dt_watch
  have F_dt_snapshot := fun_mk (st := s_dt_snapshot) l_dt_snapshot cc_dt_snapshot kp_dt_snapshot
  have F_dt_want := fun_mk (st := s_dt_want) l_dt_want cc_dt_want kp_dt_want
  have F_dt_grant := fun_mk (st := s_dt_grant) l_dt_grant cc_dt_grant kp_dt_grant
  have F_dt_suspect := fun_mk (st := s_dt_suspect) l_dt_suspect cc_dt_suspect kp_dt_suspect
  have F_dt_message := fun_mk (st := s_dt_message) l_dt_message cc_dt_message kp_dt_message
  have F_take_first := fun_mk (st := s_take_first) l_take_first cc_take_first kp_take_first
  have F_dt_output := fun_mk (st := s_dt_output) l_dt_output cc_dt_output kp_dt_output
  have F_dt_take := fun_mk (st := s_dt_take) l_dt_take cc_dt_take kp_dt_take
  have F_dt_cut := fun_mk (st := s_dt_cut) l_dt_cut cc_dt_cut kp_dt_cut
  have F_as_bits := fun_mk (st := s_as_bits) l_as_bits cc_as_bits kp_as_bits
  have F_dt_told := fun_mk (st := s_dt_told) l_dt_told cc_dt_told kp_dt_told
  have F_Token_init := fun_mk (st := s_Token_init) l_Token_init cc_Token_init kp_Token_init
  have F_Recording_init := fun_mk (st := s_Recording_init) l_Recording_init cc_Recording_init kp_Recording_init
  have F_Recording_put_work := fun_mk (st := s_Recording_put_work) l_Recording_put_work cc_Recording_put_work kp_Recording_put_work
  have F_Host_init := fun_mk (st := s_Host_init) l_Host_init cc_Host_init kp_Host_init
  have F_Host_begin := fun_mk (st := s_Host_begin) l_Host_begin cc_Host_begin kp_Host_begin
  have F_Host_is_busy := fun_mk (st := s_Host_is_busy) l_Host_is_busy cc_Host_is_busy kp_Host_is_busy
  have F_Host_is_other := fun_mk (st := s_Host_is_other) l_Host_is_other cc_Host_is_other kp_Host_is_other
  have F_Host_send := fun_mk (st := s_Host_send) l_Host_send cc_Host_send kp_Host_send
  have F_Host_send_to_all := fun_mk (st := s_Host_send_to_all) l_Host_send_to_all cc_Host_send_to_all kp_Host_send_to_all
  have F_Host_send_work := fun_mk (st := s_Host_send_work) l_Host_send_work cc_Host_send_work kp_Host_send_work
  have F_Host_work_comes := fun_mk (st := s_Host_work_comes) l_Host_work_comes cc_Host_work_comes kp_Host_work_comes
  have F_Host_become_idle := fun_mk (st := s_Host_become_idle) l_Host_become_idle cc_Host_become_idle kp_Host_become_idle
  have F_Host_watch := fun_mk (st := s_Host_watch) l_Host_watch cc_Host_watch kp_Host_watch
  have F_Host_token_comes := fun_mk (st := s_Host_token_comes) l_Host_token_comes cc_Host_token_comes kp_Host_token_comes
  have F_Host_pass_token := fun_mk (st := s_Host_pass_token) l_Host_pass_token cc_Host_pass_token kp_Host_pass_token
  have F_Host_last_cut_is_whole := fun_mk (st := s_Host_last_cut_is_whole) l_Host_last_cut_is_whole cc_Host_last_cut_is_whole kp_Host_last_cut_is_whole
  have F_Host_begin_cut := fun_mk (st := s_Host_begin_cut) l_Host_begin_cut cc_Host_begin_cut kp_Host_begin_cut
  have F_Host_begin_recording := fun_mk (st := s_Host_begin_recording) l_Host_begin_recording cc_Host_begin_recording kp_Host_begin_recording
  have F_Host_marker_comes := fun_mk (st := s_Host_marker_comes) l_Host_marker_comes cc_Host_marker_comes kp_Host_marker_comes
  have F_Host_end_recording_if_done := fun_mk (st := s_Host_end_recording_if_done) l_Host_end_recording_if_done cc_Host_end_recording_if_done kp_Host_end_recording_if_done
  have F_Host_record_comes := fun_mk (st := s_Host_record_comes) l_Host_record_comes cc_Host_record_comes kp_Host_record_comes
  have F_Host_cut_bytes := fun_mk (st := s_Host_cut_bytes) l_Host_cut_bytes cc_Host_cut_bytes kp_Host_cut_bytes
  have F_Host_is_blocked := fun_mk (st := s_Host_is_blocked) l_Host_is_blocked cc_Host_is_blocked kp_Host_is_blocked
  have F_Host_want := fun_mk (st := s_Host_want) l_Host_want cc_Host_want kp_Host_want
  have F_Host_want_comes := fun_mk (st := s_Host_want_comes) l_Host_want_comes cc_Host_want_comes kp_Host_want_comes
  have F_Host_grant := fun_mk (st := s_Host_grant) l_Host_grant cc_Host_grant kp_Host_grant
  have F_Host_grant_comes := fun_mk (st := s_Host_grant_comes) l_Host_grant_comes cc_Host_grant_comes kp_Host_grant_comes
  have F_Host_suspect := fun_mk (st := s_Host_suspect) l_Host_suspect cc_Host_suspect kp_Host_suspect
  have F_Host_send_probe := fun_mk (st := s_Host_send_probe) l_Host_send_probe cc_Host_send_probe kp_Host_send_probe
  have F_Host_probe_comes := fun_mk (st := s_Host_probe_comes) l_Host_probe_comes cc_Host_probe_comes kp_Host_probe_comes
  have F_Reader_init := fun_mk (st := s_Reader_init) l_Reader_init cc_Reader_init kp_Reader_init
  have F_Reader_has_more := fun_mk (st := s_Reader_has_more) l_Reader_has_more cc_Reader_has_more kp_Reader_has_more
  have F_Reader_take_number := fun_mk (st := s_Reader_take_number) l_Reader_take_number cc_Reader_take_number kp_Reader_take_number
  have F_Reader_take_row := fun_mk (st := s_Reader_take_row) l_Reader_take_row cc_Reader_take_row kp_Reader_take_row
  have F_answer_one := fun_mk (st := s_answer_one) l_answer_one cc_answer_one kp_answer_one
  have F_answers_on := fun_mk (st := s_answers_on) l_answers_on cc_answers_on kp_answers_on
  have F_answers := fun_mk (st := s_answers) l_answers cc_answers kp_answers
  refine ⟨{ c_Token := c_Token, c_Recording := c_Recording, c_Host := c_Host, c_Reader := c_Reader, f_four_bytes := f_four_bytes, d_four_bytes := PySem.W.fnOf "four_bytes" "four_bytes" (defArgs s_four_bytes) (defBody s_four_bytes) (defScope s_four_bytes) .none kV_four_bytes doc_four_bytes pm_four_bytes an_four_bytes cd_four_bytes ct_four_bytes, f_number_at := f_number_at, d_number_at := PySem.W.fnOf "number_at" "number_at" (defArgs s_number_at) (defBody s_number_at) (defScope s_number_at) .none kV_number_at doc_number_at pm_number_at an_number_at cd_number_at ct_number_at, f_work_message := f_work_message, d_work_message := PySem.W.fnOf "work_message" "work_message" (defArgs s_work_message) (defBody s_work_message) (defScope s_work_message) .none kV_work_message doc_work_message pm_work_message an_work_message cd_work_message ct_work_message, f_token_message := f_token_message, d_token_message := PySem.W.fnOf "token_message" "token_message" (defArgs s_token_message) (defBody s_token_message) (defScope s_token_message) .none kV_token_message doc_token_message pm_token_message an_token_message cd_token_message ct_token_message, f_marker_message := f_marker_message, d_marker_message := PySem.W.fnOf "marker_message" "marker_message" (defArgs s_marker_message) (defBody s_marker_message) (defScope s_marker_message) .none kV_marker_message doc_marker_message pm_marker_message an_marker_message cd_marker_message ct_marker_message, f_record_message := f_record_message, d_record_message := PySem.W.fnOf "record_message" "record_message" (defArgs s_record_message) (defBody s_record_message) (defScope s_record_message) .none kV_record_message doc_record_message pm_record_message an_record_message cd_record_message ct_record_message, f_want_message := f_want_message, d_want_message := PySem.W.fnOf "want_message" "want_message" (defArgs s_want_message) (defBody s_want_message) (defScope s_want_message) .none kV_want_message doc_want_message pm_want_message an_want_message cd_want_message ct_want_message, f_grant_message := f_grant_message, d_grant_message := PySem.W.fnOf "grant_message" "grant_message" (defArgs s_grant_message) (defBody s_grant_message) (defScope s_grant_message) .none kV_grant_message doc_grant_message pm_grant_message an_grant_message cd_grant_message ct_grant_message, f_probe_message := f_probe_message, d_probe_message := PySem.W.fnOf "probe_message" "probe_message" (defArgs s_probe_message) (defBody s_probe_message) (defScope s_probe_message) .none kV_probe_message doc_probe_message pm_probe_message an_probe_message cd_probe_message ct_probe_message, f_record_bytes := f_record_bytes, d_record_bytes := PySem.W.fnOf "record_bytes" "record_bytes" (defArgs s_record_bytes) (defBody s_record_bytes) (defScope s_record_bytes) .none kV_record_bytes doc_record_bytes pm_record_bytes an_record_bytes cd_record_bytes ct_record_bytes, f_end_of_row := f_end_of_row, d_end_of_row := PySem.W.fnOf "end_of_row" "end_of_row" (defArgs s_end_of_row) (defBody s_end_of_row) (defScope s_end_of_row) .none kV_end_of_row doc_end_of_row pm_end_of_row an_end_of_row cd_end_of_row ct_end_of_row, f_end_of_works := f_end_of_works, d_end_of_works := PySem.W.fnOf "end_of_works" "end_of_works" (defArgs s_end_of_works) (defBody s_end_of_works) (defScope s_end_of_works) .none kV_end_of_works doc_end_of_works pm_end_of_works an_end_of_works cd_end_of_works ct_end_of_works, f_is_right_record := f_is_right_record, d_is_right_record := PySem.W.fnOf "is_right_record" "is_right_record" (defArgs s_is_right_record) (defBody s_is_right_record) (defScope s_is_right_record) .none kV_is_right_record doc_is_right_record pm_is_right_record an_is_right_record cd_is_right_record ct_is_right_record, f_is_right := f_is_right, d_is_right := PySem.W.fnOf "is_right" "is_right" (defArgs s_is_right) (defBody s_is_right) (defScope s_is_right) .none kV_is_right doc_is_right pm_is_right an_is_right cd_is_right ct_is_right, f_message_comes := f_message_comes, d_message_comes := PySem.W.fnOf "message_comes" "message_comes" (defArgs s_message_comes) (defBody s_message_comes) (defScope s_message_comes) .none kV_message_comes doc_message_comes pm_message_comes an_message_comes cd_message_comes ct_message_comes, f_dt_begin := f_dt_begin, d_dt_begin := PySem.W.fnOf "dt_begin" "dt_begin" (defArgs s_dt_begin) (defBody s_dt_begin) (defScope s_dt_begin) .none kV_dt_begin doc_dt_begin pm_dt_begin an_dt_begin cd_dt_begin ct_dt_begin, f_dt_state := f_dt_state, d_dt_state := PySem.W.fnOf "dt_state" "dt_state" (defArgs s_dt_state) (defBody s_dt_state) (defScope s_dt_state) .none kV_dt_state doc_dt_state pm_dt_state an_dt_state cd_dt_state ct_dt_state, f_dt_send := f_dt_send, d_dt_send := PySem.W.fnOf "dt_send" "dt_send" (defArgs s_dt_send) (defBody s_dt_send) (defScope s_dt_send) .none kV_dt_send doc_dt_send pm_dt_send an_dt_send cd_dt_send ct_dt_send, f_dt_idle := f_dt_idle, d_dt_idle := PySem.W.fnOf "dt_idle" "dt_idle" (defArgs s_dt_idle) (defBody s_dt_idle) (defScope s_dt_idle) .none kV_dt_idle doc_dt_idle pm_dt_idle an_dt_idle cd_dt_idle ct_dt_idle, f_dt_watch := f_dt_watch, d_dt_watch := PySem.W.fnOf "dt_watch" "dt_watch" (defArgs s_dt_watch) (defBody s_dt_watch) (defScope s_dt_watch) .none kV_dt_watch doc_dt_watch pm_dt_watch an_dt_watch cd_dt_watch ct_dt_watch, f_dt_snapshot := f_dt_snapshot, d_dt_snapshot := PySem.W.fnOf "dt_snapshot" "dt_snapshot" (defArgs s_dt_snapshot) (defBody s_dt_snapshot) (defScope s_dt_snapshot) .none kV_dt_snapshot doc_dt_snapshot pm_dt_snapshot an_dt_snapshot cd_dt_snapshot ct_dt_snapshot, f_dt_want := f_dt_want, d_dt_want := PySem.W.fnOf "dt_want" "dt_want" (defArgs s_dt_want) (defBody s_dt_want) (defScope s_dt_want) .none kV_dt_want doc_dt_want pm_dt_want an_dt_want cd_dt_want ct_dt_want, f_dt_grant := f_dt_grant, d_dt_grant := PySem.W.fnOf "dt_grant" "dt_grant" (defArgs s_dt_grant) (defBody s_dt_grant) (defScope s_dt_grant) .none kV_dt_grant doc_dt_grant pm_dt_grant an_dt_grant cd_dt_grant ct_dt_grant, f_dt_suspect := f_dt_suspect, d_dt_suspect := PySem.W.fnOf "dt_suspect" "dt_suspect" (defArgs s_dt_suspect) (defBody s_dt_suspect) (defScope s_dt_suspect) .none kV_dt_suspect doc_dt_suspect pm_dt_suspect an_dt_suspect cd_dt_suspect ct_dt_suspect, f_dt_message := f_dt_message, d_dt_message := PySem.W.fnOf "dt_message" "dt_message" (defArgs s_dt_message) (defBody s_dt_message) (defScope s_dt_message) .none kV_dt_message doc_dt_message pm_dt_message an_dt_message cd_dt_message ct_dt_message, f_take_first := f_take_first, d_take_first := PySem.W.fnOf "take_first" "take_first" (defArgs s_take_first) (defBody s_take_first) (defScope s_take_first) .none kV_take_first doc_take_first pm_take_first an_take_first cd_take_first ct_take_first, f_dt_output := f_dt_output, d_dt_output := PySem.W.fnOf "dt_output" "dt_output" (defArgs s_dt_output) (defBody s_dt_output) (defScope s_dt_output) .none kV_dt_output doc_dt_output pm_dt_output an_dt_output cd_dt_output ct_dt_output, f_dt_take := f_dt_take, d_dt_take := PySem.W.fnOf "dt_take" "dt_take" (defArgs s_dt_take) (defBody s_dt_take) (defScope s_dt_take) .none kV_dt_take doc_dt_take pm_dt_take an_dt_take cd_dt_take ct_dt_take, f_dt_cut := f_dt_cut, d_dt_cut := PySem.W.fnOf "dt_cut" "dt_cut" (defArgs s_dt_cut) (defBody s_dt_cut) (defScope s_dt_cut) .none kV_dt_cut doc_dt_cut pm_dt_cut an_dt_cut cd_dt_cut ct_dt_cut, f_as_bits := f_as_bits, d_as_bits := PySem.W.fnOf "as_bits" "as_bits" (defArgs s_as_bits) (defBody s_as_bits) (defScope s_as_bits) .none kV_as_bits doc_as_bits pm_as_bits an_as_bits cd_as_bits ct_as_bits, f_dt_told := f_dt_told, d_dt_told := PySem.W.fnOf "dt_told" "dt_told" (defArgs s_dt_told) (defBody s_dt_told) (defScope s_dt_told) .none kV_dt_told doc_dt_told pm_dt_told an_dt_told cd_dt_told ct_dt_told, f_Token_init := f_Token_init, d_Token_init := PySem.W.fnOf "__init__" "Token.__init__" (defArgs s_Token_init) (defBody s_Token_init) (defScope s_Token_init) .none kV_Token_init doc_Token_init pm_Token_init an_Token_init cd_Token_init ct_Token_init, f_Recording_init := f_Recording_init, d_Recording_init := PySem.W.fnOf "__init__" "Recording.__init__" (defArgs s_Recording_init) (defBody s_Recording_init) (defScope s_Recording_init) .none kV_Recording_init doc_Recording_init pm_Recording_init an_Recording_init cd_Recording_init ct_Recording_init, f_Recording_put_work := f_Recording_put_work, d_Recording_put_work := PySem.W.fnOf "put_work" "Recording.put_work" (defArgs s_Recording_put_work) (defBody s_Recording_put_work) (defScope s_Recording_put_work) .none kV_Recording_put_work doc_Recording_put_work pm_Recording_put_work an_Recording_put_work cd_Recording_put_work ct_Recording_put_work, f_Host_init := f_Host_init, d_Host_init := PySem.W.fnOf "__init__" "Host.__init__" (defArgs s_Host_init) (defBody s_Host_init) (defScope s_Host_init) .none kV_Host_init doc_Host_init pm_Host_init an_Host_init cd_Host_init ct_Host_init, f_Host_begin := f_Host_begin, d_Host_begin := PySem.W.fnOf "begin" "Host.begin" (defArgs s_Host_begin) (defBody s_Host_begin) (defScope s_Host_begin) .none kV_Host_begin doc_Host_begin pm_Host_begin an_Host_begin cd_Host_begin ct_Host_begin, f_Host_is_busy := f_Host_is_busy, d_Host_is_busy := PySem.W.fnOf "is_busy" "Host.is_busy" (defArgs s_Host_is_busy) (defBody s_Host_is_busy) (defScope s_Host_is_busy) .none kV_Host_is_busy doc_Host_is_busy pm_Host_is_busy an_Host_is_busy cd_Host_is_busy ct_Host_is_busy, f_Host_is_other := f_Host_is_other, d_Host_is_other := PySem.W.fnOf "is_other" "Host.is_other" (defArgs s_Host_is_other) (defBody s_Host_is_other) (defScope s_Host_is_other) .none kV_Host_is_other doc_Host_is_other pm_Host_is_other an_Host_is_other cd_Host_is_other ct_Host_is_other, f_Host_send := f_Host_send, d_Host_send := PySem.W.fnOf "send" "Host.send" (defArgs s_Host_send) (defBody s_Host_send) (defScope s_Host_send) .none kV_Host_send doc_Host_send pm_Host_send an_Host_send cd_Host_send ct_Host_send, f_Host_send_to_all := f_Host_send_to_all, d_Host_send_to_all := PySem.W.fnOf "send_to_all" "Host.send_to_all" (defArgs s_Host_send_to_all) (defBody s_Host_send_to_all) (defScope s_Host_send_to_all) .none kV_Host_send_to_all doc_Host_send_to_all pm_Host_send_to_all an_Host_send_to_all cd_Host_send_to_all ct_Host_send_to_all, f_Host_send_work := f_Host_send_work, d_Host_send_work := PySem.W.fnOf "send_work" "Host.send_work" (defArgs s_Host_send_work) (defBody s_Host_send_work) (defScope s_Host_send_work) .none kV_Host_send_work doc_Host_send_work pm_Host_send_work an_Host_send_work cd_Host_send_work ct_Host_send_work, f_Host_work_comes := f_Host_work_comes, d_Host_work_comes := PySem.W.fnOf "work_comes" "Host.work_comes" (defArgs s_Host_work_comes) (defBody s_Host_work_comes) (defScope s_Host_work_comes) .none kV_Host_work_comes doc_Host_work_comes pm_Host_work_comes an_Host_work_comes cd_Host_work_comes ct_Host_work_comes, f_Host_become_idle := f_Host_become_idle, d_Host_become_idle := PySem.W.fnOf "become_idle" "Host.become_idle" (defArgs s_Host_become_idle) (defBody s_Host_become_idle) (defScope s_Host_become_idle) .none kV_Host_become_idle doc_Host_become_idle pm_Host_become_idle an_Host_become_idle cd_Host_become_idle ct_Host_become_idle, f_Host_watch := f_Host_watch, d_Host_watch := PySem.W.fnOf "watch" "Host.watch" (defArgs s_Host_watch) (defBody s_Host_watch) (defScope s_Host_watch) .none kV_Host_watch doc_Host_watch pm_Host_watch an_Host_watch cd_Host_watch ct_Host_watch, f_Host_token_comes := f_Host_token_comes, d_Host_token_comes := PySem.W.fnOf "token_comes" "Host.token_comes" (defArgs s_Host_token_comes) (defBody s_Host_token_comes) (defScope s_Host_token_comes) .none kV_Host_token_comes doc_Host_token_comes pm_Host_token_comes an_Host_token_comes cd_Host_token_comes ct_Host_token_comes, f_Host_pass_token := f_Host_pass_token, d_Host_pass_token := PySem.W.fnOf "pass_token" "Host.pass_token" (defArgs s_Host_pass_token) (defBody s_Host_pass_token) (defScope s_Host_pass_token) .none kV_Host_pass_token doc_Host_pass_token pm_Host_pass_token an_Host_pass_token cd_Host_pass_token ct_Host_pass_token, f_Host_last_cut_is_whole := f_Host_last_cut_is_whole, d_Host_last_cut_is_whole := PySem.W.fnOf "last_cut_is_whole" "Host.last_cut_is_whole" (defArgs s_Host_last_cut_is_whole) (defBody s_Host_last_cut_is_whole) (defScope s_Host_last_cut_is_whole) .none kV_Host_last_cut_is_whole doc_Host_last_cut_is_whole pm_Host_last_cut_is_whole an_Host_last_cut_is_whole cd_Host_last_cut_is_whole ct_Host_last_cut_is_whole, f_Host_begin_cut := f_Host_begin_cut, d_Host_begin_cut := PySem.W.fnOf "begin_cut" "Host.begin_cut" (defArgs s_Host_begin_cut) (defBody s_Host_begin_cut) (defScope s_Host_begin_cut) .none kV_Host_begin_cut doc_Host_begin_cut pm_Host_begin_cut an_Host_begin_cut cd_Host_begin_cut ct_Host_begin_cut, f_Host_begin_recording := f_Host_begin_recording, d_Host_begin_recording := PySem.W.fnOf "begin_recording" "Host.begin_recording" (defArgs s_Host_begin_recording) (defBody s_Host_begin_recording) (defScope s_Host_begin_recording) .none kV_Host_begin_recording doc_Host_begin_recording pm_Host_begin_recording an_Host_begin_recording cd_Host_begin_recording ct_Host_begin_recording, f_Host_marker_comes := f_Host_marker_comes, d_Host_marker_comes := PySem.W.fnOf "marker_comes" "Host.marker_comes" (defArgs s_Host_marker_comes) (defBody s_Host_marker_comes) (defScope s_Host_marker_comes) .none kV_Host_marker_comes doc_Host_marker_comes pm_Host_marker_comes an_Host_marker_comes cd_Host_marker_comes ct_Host_marker_comes, f_Host_end_recording_if_done := f_Host_end_recording_if_done, d_Host_end_recording_if_done := PySem.W.fnOf "end_recording_if_done" "Host.end_recording_if_done" (defArgs s_Host_end_recording_if_done) (defBody s_Host_end_recording_if_done) (defScope s_Host_end_recording_if_done) .none kV_Host_end_recording_if_done doc_Host_end_recording_if_done pm_Host_end_recording_if_done an_Host_end_recording_if_done cd_Host_end_recording_if_done ct_Host_end_recording_if_done, f_Host_record_comes := f_Host_record_comes, d_Host_record_comes := PySem.W.fnOf "record_comes" "Host.record_comes" (defArgs s_Host_record_comes) (defBody s_Host_record_comes) (defScope s_Host_record_comes) .none kV_Host_record_comes doc_Host_record_comes pm_Host_record_comes an_Host_record_comes cd_Host_record_comes ct_Host_record_comes, f_Host_cut_bytes := f_Host_cut_bytes, d_Host_cut_bytes := PySem.W.fnOf "cut_bytes" "Host.cut_bytes" (defArgs s_Host_cut_bytes) (defBody s_Host_cut_bytes) (defScope s_Host_cut_bytes) .none kV_Host_cut_bytes doc_Host_cut_bytes pm_Host_cut_bytes an_Host_cut_bytes cd_Host_cut_bytes ct_Host_cut_bytes, f_Host_is_blocked := f_Host_is_blocked, d_Host_is_blocked := PySem.W.fnOf "is_blocked" "Host.is_blocked" (defArgs s_Host_is_blocked) (defBody s_Host_is_blocked) (defScope s_Host_is_blocked) .none kV_Host_is_blocked doc_Host_is_blocked pm_Host_is_blocked an_Host_is_blocked cd_Host_is_blocked ct_Host_is_blocked, f_Host_want := f_Host_want, d_Host_want := PySem.W.fnOf "want" "Host.want" (defArgs s_Host_want) (defBody s_Host_want) (defScope s_Host_want) .none kV_Host_want doc_Host_want pm_Host_want an_Host_want cd_Host_want ct_Host_want, f_Host_want_comes := f_Host_want_comes, d_Host_want_comes := PySem.W.fnOf "want_comes" "Host.want_comes" (defArgs s_Host_want_comes) (defBody s_Host_want_comes) (defScope s_Host_want_comes) .none kV_Host_want_comes doc_Host_want_comes pm_Host_want_comes an_Host_want_comes cd_Host_want_comes ct_Host_want_comes, f_Host_grant := f_Host_grant, d_Host_grant := PySem.W.fnOf "grant" "Host.grant" (defArgs s_Host_grant) (defBody s_Host_grant) (defScope s_Host_grant) .none kV_Host_grant doc_Host_grant pm_Host_grant an_Host_grant cd_Host_grant ct_Host_grant, f_Host_grant_comes := f_Host_grant_comes, d_Host_grant_comes := PySem.W.fnOf "grant_comes" "Host.grant_comes" (defArgs s_Host_grant_comes) (defBody s_Host_grant_comes) (defScope s_Host_grant_comes) .none kV_Host_grant_comes doc_Host_grant_comes pm_Host_grant_comes an_Host_grant_comes cd_Host_grant_comes ct_Host_grant_comes, f_Host_suspect := f_Host_suspect, d_Host_suspect := PySem.W.fnOf "suspect" "Host.suspect" (defArgs s_Host_suspect) (defBody s_Host_suspect) (defScope s_Host_suspect) .none kV_Host_suspect doc_Host_suspect pm_Host_suspect an_Host_suspect cd_Host_suspect ct_Host_suspect, f_Host_send_probe := f_Host_send_probe, d_Host_send_probe := PySem.W.fnOf "send_probe" "Host.send_probe" (defArgs s_Host_send_probe) (defBody s_Host_send_probe) (defScope s_Host_send_probe) .none kV_Host_send_probe doc_Host_send_probe pm_Host_send_probe an_Host_send_probe cd_Host_send_probe ct_Host_send_probe, f_Host_probe_comes := f_Host_probe_comes, d_Host_probe_comes := PySem.W.fnOf "probe_comes" "Host.probe_comes" (defArgs s_Host_probe_comes) (defBody s_Host_probe_comes) (defScope s_Host_probe_comes) .none kV_Host_probe_comes doc_Host_probe_comes pm_Host_probe_comes an_Host_probe_comes cd_Host_probe_comes ct_Host_probe_comes, f_Reader_init := f_Reader_init, d_Reader_init := PySem.W.fnOf "__init__" "Reader.__init__" (defArgs s_Reader_init) (defBody s_Reader_init) (defScope s_Reader_init) .none kV_Reader_init doc_Reader_init pm_Reader_init an_Reader_init cd_Reader_init ct_Reader_init, f_Reader_has_more := f_Reader_has_more, d_Reader_has_more := PySem.W.fnOf "has_more" "Reader.has_more" (defArgs s_Reader_has_more) (defBody s_Reader_has_more) (defScope s_Reader_has_more) .none kV_Reader_has_more doc_Reader_has_more pm_Reader_has_more an_Reader_has_more cd_Reader_has_more ct_Reader_has_more, f_Reader_take_number := f_Reader_take_number, d_Reader_take_number := PySem.W.fnOf "take_number" "Reader.take_number" (defArgs s_Reader_take_number) (defBody s_Reader_take_number) (defScope s_Reader_take_number) .none kV_Reader_take_number doc_Reader_take_number pm_Reader_take_number an_Reader_take_number cd_Reader_take_number ct_Reader_take_number, f_Reader_take_row := f_Reader_take_row, d_Reader_take_row := PySem.W.fnOf "take_row" "Reader.take_row" (defArgs s_Reader_take_row) (defBody s_Reader_take_row) (defScope s_Reader_take_row) .none kV_Reader_take_row doc_Reader_take_row pm_Reader_take_row an_Reader_take_row cd_Reader_take_row ct_Reader_take_row, f_answer_one := f_answer_one, d_answer_one := PySem.W.fnOf "answer_one" "answer_one" (defArgs s_answer_one) (defBody s_answer_one) (defScope s_answer_one) .none kV_answer_one doc_answer_one pm_answer_one an_answer_one cd_answer_one ct_answer_one, f_answers_on := f_answers_on, d_answers_on := PySem.W.fnOf "answers_on" "answers_on" (defArgs s_answers_on) (defBody s_answers_on) (defScope s_answers_on) .none kV_answers_on doc_answers_on pm_answers_on an_answers_on cd_answers_on ct_answers_on, f_answers := f_answers, d_answers := PySem.W.fnOf "answers" "answers" (defArgs s_answers) (defBody s_answers) (defScope s_answers) .none kV_answers doc_answers pm_answers an_answers cd_answers ct_answers, t_WORK := t_WORK, t_TOKEN := t_TOKEN, t_MARKER := t_MARKER, t_RECORD := t_RECORD, t_WANT_messages := t_WANT_messages, t_GRANT_messages := t_GRANT_messages, t_PROBE := t_PROBE, t_MOST_BYTES := t_MOST_BYTES, t_MOST_WORKS := t_MOST_WORKS, t_SIX_BYTES := t_SIX_BYTES, t_TOO_MUCH_AT := t_TOO_MUCH_AT, t_STATE_AT := t_STATE_AT, t_NO_ROOM := t_NO_ROOM, t_WRONG := t_WRONG, t_NOT_NOW := t_NOT_NOW, t_TOO_MANY := t_TOO_MANY, t_MOST_HOSTS := t_MOST_HOSTS, t_MOST_MESSAGE := t_MOST_MESSAGE, t_MOST_WAITING := t_MOST_WAITING, t_LAST_NUMBER := t_LAST_NUMBER, t_TOLD_BELOW := t_TOLD_BELOW, t_MOST_OUTGOING := t_MOST_OUTGOING, t_GOES_ROUND_AT := t_GOES_ROUND_AT, t_BEGIN := t_BEGIN, t_STATE := t_STATE, t_SEND := t_SEND, t_IDLE := t_IDLE, t_WATCH := t_WATCH, t_SNAPSHOT := t_SNAPSHOT, t_WANT_host := t_WANT_host, t_GRANT_host := t_GRANT_host, t_SUSPECT := t_SUSPECT, t_MESSAGE := t_MESSAGE, t_OUTPUT := t_OUTPUT, t_TAKE := t_TAKE, t_CUT := t_CUT, t_TOLD := t_TOLD }, ?_⟩
  exact {
    cl_Token := ⟨pg_Token, hd_Token, po_Token, sa_Token⟩,
    mg_Token := PySem.W.mg_of X G a_Token,
    mk_Token := ⟨mk_Token, a_Token_init, i_Token_init, kc_Token⟩,
    na_Token_black := na_Token_black,
    na_Token_total := na_Token_total,
    cl_Recording := ⟨pg_Recording, hd_Recording, po_Recording, sa_Recording⟩,
    mg_Recording := PySem.W.mg_of X G a_Recording,
    mk_Recording := ⟨mk_Recording, a_Recording_init, i_Recording_init, kc_Recording⟩,
    na_Recording_number := na_Recording_number,
    na_Recording_state := na_Recording_state,
    na_Recording_ways := na_Recording_ways,
    na_Recording_works := na_Recording_works,
    na_Recording_too_much := na_Recording_too_much,
    cl_Host := ⟨pg_Host, hd_Host, po_Host, sa_Host⟩,
    mg_Host := PySem.W.mg_of X G a_Host,
    mk_Host := ⟨mk_Host, a_Host_init, i_Host_init, kc_Host⟩,
    na_Host_me := na_Host_me,
    na_Host_n := na_Host_n,
    na_Host_active := na_Host_active,
    na_Host_state := na_Host_state,
    na_Host_outgoing := na_Host_outgoing,
    na_Host_works := na_Host_works,
    na_Host_balance := na_Host_balance,
    na_Host_black := na_Host_black,
    na_Host_watching := na_Host_watching,
    na_Host_token := na_Host_token,
    na_Host_found := na_Host_found,
    na_Host_cut_number := na_Host_cut_number,
    na_Host_records := na_Host_records,
    na_Host_recordings := na_Host_recordings,
    na_Host_waits := na_Host_waits,
    na_Host_owes := na_Host_owes,
    na_Host_suspect_number := na_Host_suspect_number,
    na_Host_counted := na_Host_counted,
    na_Host_locked := na_Host_locked,
    cl_Reader := ⟨pg_Reader, hd_Reader, po_Reader, sa_Reader⟩,
    mg_Reader := PySem.W.mg_of X G a_Reader,
    mk_Reader := ⟨mk_Reader, a_Reader_init, i_Reader_init, kc_Reader⟩,
    na_Reader_numbers := na_Reader_numbers,
    na_Reader_at := na_Reader_at,
    g_four_bytes := ⟨F_four_bytes, F_four_bytes.binds (ps := ["number"]) fun _ _ _ _ _ _ us hl => match us, hl with | [_], _ => rfl, PySem.W.mg_of X G a_four_bytes⟩,
    g_number_at := ⟨F_number_at, F_number_at.binds (ps := ["message", "at"]) fun _ _ _ _ _ _ us hl => match us, hl with | [_, _], _ => rfl, PySem.W.mg_of X G a_number_at⟩,
    g_work_message := ⟨F_work_message, F_work_message.binds (ps := ["row"]) fun _ _ _ _ _ _ us hl => match us, hl with | [_], _ => rfl, PySem.W.mg_of X G a_work_message⟩,
    g_token_message := ⟨F_token_message, F_token_message.binds (ps := ["black", "total"]) fun _ _ _ _ _ _ us hl => match us, hl with | [_, _], _ => rfl, PySem.W.mg_of X G a_token_message⟩,
    g_marker_message := ⟨F_marker_message, F_marker_message.binds (ps := ["who", "number"]) fun _ _ _ _ _ _ us hl => match us, hl with | [_, _], _ => rfl, PySem.W.mg_of X G a_marker_message⟩,
    g_record_message := ⟨F_record_message, F_record_message.binds (ps := ["number", "record"]) fun _ _ _ _ _ _ us hl => match us, hl with | [_, _], _ => rfl, PySem.W.mg_of X G a_record_message⟩,
    g_want_message := ⟨F_want_message, F_want_message.binds (ps := []) fun _ _ _ _ _ _ us hl => match us, hl with | [], _ => rfl, PySem.W.mg_of X G a_want_message⟩,
    g_grant_message := ⟨F_grant_message, F_grant_message.binds (ps := []) fun _ _ _ _ _ _ us hl => match us, hl with | [], _ => rfl, PySem.W.mg_of X G a_grant_message⟩,
    g_probe_message := ⟨F_probe_message, F_probe_message.binds (ps := ["who", "number"]) fun _ _ _ _ _ _ us hl => match us, hl with | [_, _], _ => rfl, PySem.W.mg_of X G a_probe_message⟩,
    g_record_bytes := ⟨F_record_bytes, F_record_bytes.binds (ps := ["too_much", "state", "works"]) fun _ _ _ _ _ _ us hl => match us, hl with | [_, _, _], _ => rfl, PySem.W.mg_of X G a_record_bytes⟩,
    g_end_of_row := ⟨F_end_of_row, F_end_of_row.binds (ps := ["message", "at"]) fun _ _ _ _ _ _ us hl => match us, hl with | [_, _], _ => rfl, PySem.W.mg_of X G a_end_of_row⟩,
    g_end_of_works := ⟨F_end_of_works, F_end_of_works.binds (ps := ["message", "at", "n"]) fun _ _ _ _ _ _ us hl => match us, hl with | [_, _, _], _ => rfl, PySem.W.mg_of X G a_end_of_works⟩,
    g_is_right_record := ⟨F_is_right_record, F_is_right_record.binds (ps := ["message", "n"]) fun _ _ _ _ _ _ us hl => match us, hl with | [_, _], _ => rfl, PySem.W.mg_of X G a_is_right_record⟩,
    g_is_right := ⟨F_is_right, F_is_right.binds (ps := ["message", "n"]) fun _ _ _ _ _ _ us hl => match us, hl with | [_, _], _ => rfl, PySem.W.mg_of X G a_is_right⟩,
    g_message_comes := ⟨F_message_comes, F_message_comes.binds (ps := ["host", "sender", "message"]) fun _ _ _ _ _ _ us hl => match us, hl with | [_, _, _], _ => rfl, PySem.W.mg_of X G a_message_comes⟩,
    g_dt_begin := ⟨F_dt_begin, F_dt_begin.binds (ps := ["host", "me", "n", "active"]) fun _ _ _ _ _ _ us hl => match us, hl with | [_, _, _, _], _ => rfl, PySem.W.mg_of X G a_dt_begin⟩,
    g_dt_state := ⟨F_dt_state, F_dt_state.binds (ps := ["host", "row"]) fun _ _ _ _ _ _ us hl => match us, hl with | [_, _], _ => rfl, PySem.W.mg_of X G a_dt_state⟩,
    g_dt_send := ⟨F_dt_send, F_dt_send.binds (ps := ["host", "to", "row"]) fun _ _ _ _ _ _ us hl => match us, hl with | [_, _, _], _ => rfl, PySem.W.mg_of X G a_dt_send⟩,
    g_dt_idle := ⟨F_dt_idle, F_dt_idle.binds (ps := ["host"]) fun _ _ _ _ _ _ us hl => match us, hl with | [_], _ => rfl, PySem.W.mg_of X G a_dt_idle⟩,
    g_dt_watch := ⟨F_dt_watch, F_dt_watch.binds (ps := ["host"]) fun _ _ _ _ _ _ us hl => match us, hl with | [_], _ => rfl, PySem.W.mg_of X G a_dt_watch⟩,
    g_dt_snapshot := ⟨F_dt_snapshot, F_dt_snapshot.binds (ps := ["host"]) fun _ _ _ _ _ _ us hl => match us, hl with | [_], _ => rfl, PySem.W.mg_of X G a_dt_snapshot⟩,
    g_dt_want := ⟨F_dt_want, F_dt_want.binds (ps := ["host", "who"]) fun _ _ _ _ _ _ us hl => match us, hl with | [_, _], _ => rfl, PySem.W.mg_of X G a_dt_want⟩,
    g_dt_grant := ⟨F_dt_grant, F_dt_grant.binds (ps := ["host", "who"]) fun _ _ _ _ _ _ us hl => match us, hl with | [_, _], _ => rfl, PySem.W.mg_of X G a_dt_grant⟩,
    g_dt_suspect := ⟨F_dt_suspect, F_dt_suspect.binds (ps := ["host"]) fun _ _ _ _ _ _ us hl => match us, hl with | [_], _ => rfl, PySem.W.mg_of X G a_dt_suspect⟩,
    g_dt_message := ⟨F_dt_message, F_dt_message.binds (ps := ["host", "sender", "row"]) fun _ _ _ _ _ _ us hl => match us, hl with | [_, _, _], _ => rfl, PySem.W.mg_of X G a_dt_message⟩,
    g_take_first := ⟨F_take_first, F_take_first.binds (ps := ["pairs", "most"]) fun _ _ _ _ _ _ us hl => match us, hl with | [_, _], _ => rfl, PySem.W.mg_of X G a_take_first⟩,
    g_dt_output := ⟨F_dt_output, F_dt_output.binds (ps := ["host", "most"]) fun _ _ _ _ _ _ us hl => match us, hl with | [_, _], _ => rfl, PySem.W.mg_of X G a_dt_output⟩,
    g_dt_take := ⟨F_dt_take, F_dt_take.binds (ps := ["host", "most"]) fun _ _ _ _ _ _ us hl => match us, hl with | [_, _], _ => rfl, PySem.W.mg_of X G a_dt_take⟩,
    g_dt_cut := ⟨F_dt_cut, F_dt_cut.binds (ps := ["host", "most"]) fun _ _ _ _ _ _ us hl => match us, hl with | [_, _], _ => rfl, PySem.W.mg_of X G a_dt_cut⟩,
    g_as_bits := ⟨F_as_bits, F_as_bits.binds (ps := ["marks"]) fun _ _ _ _ _ _ us hl => match us, hl with | [_], _ => rfl, PySem.W.mg_of X G a_as_bits⟩,
    g_dt_told := ⟨F_dt_told, F_dt_told.binds (ps := ["host"]) fun _ _ _ _ _ _ us hl => match us, hl with | [_], _ => rfl, PySem.W.mg_of X G a_dt_told⟩,
    m_Token_init := ⟨F_Token_init, F_Token_init.binds (ps := ["self", "black", "total"]) fun _ _ _ _ _ _ us hl => match us, hl with | [_, _, _], _ => rfl, ⟨a_Token_init, i_Token_init, kp_Token_init⟩⟩,
    m_Recording_init := ⟨F_Recording_init, F_Recording_init.binds (ps := ["self", "number", "state", "ways"]) fun _ _ _ _ _ _ us hl => match us, hl with | [_, _, _, _], _ => rfl, ⟨a_Recording_init, i_Recording_init, kp_Recording_init⟩⟩,
    m_Recording_put_work := ⟨F_Recording_put_work, F_Recording_put_work.binds (ps := ["self", "sender", "row"]) fun _ _ _ _ _ _ us hl => match us, hl with | [_, _, _], _ => rfl, ⟨a_Recording_put_work, i_Recording_put_work, kp_Recording_put_work⟩⟩,
    m_Host_init := ⟨F_Host_init, F_Host_init.binds (ps := ["self"]) fun _ _ _ _ _ _ us hl => match us, hl with | [_], _ => rfl, ⟨a_Host_init, i_Host_init, kp_Host_init⟩⟩,
    m_Host_begin := ⟨F_Host_begin, F_Host_begin.binds (ps := ["self", "me", "n", "active"]) fun _ _ _ _ _ _ us hl => match us, hl with | [_, _, _, _], _ => rfl, ⟨a_Host_begin, i_Host_begin, kp_Host_begin⟩⟩,
    m_Host_is_busy := ⟨F_Host_is_busy, F_Host_is_busy.binds (ps := ["self"]) fun _ _ _ _ _ _ us hl => match us, hl with | [_], _ => rfl, ⟨a_Host_is_busy, i_Host_is_busy, kp_Host_is_busy⟩⟩,
    m_Host_is_other := ⟨F_Host_is_other, F_Host_is_other.binds (ps := ["self", "who"]) fun _ _ _ _ _ _ us hl => match us, hl with | [_, _], _ => rfl, ⟨a_Host_is_other, i_Host_is_other, kp_Host_is_other⟩⟩,
    m_Host_send := ⟨F_Host_send, F_Host_send.binds (ps := ["self", "to", "message"]) fun _ _ _ _ _ _ us hl => match us, hl with | [_, _, _], _ => rfl, ⟨a_Host_send, i_Host_send, kp_Host_send⟩⟩,
    m_Host_send_to_all := ⟨F_Host_send_to_all, F_Host_send_to_all.binds (ps := ["self", "message"]) fun _ _ _ _ _ _ us hl => match us, hl with | [_, _], _ => rfl, ⟨a_Host_send_to_all, i_Host_send_to_all, kp_Host_send_to_all⟩⟩,
    m_Host_send_work := ⟨F_Host_send_work, F_Host_send_work.binds (ps := ["self", "to", "row"]) fun _ _ _ _ _ _ us hl => match us, hl with | [_, _, _], _ => rfl, ⟨a_Host_send_work, i_Host_send_work, kp_Host_send_work⟩⟩,
    m_Host_work_comes := ⟨F_Host_work_comes, F_Host_work_comes.binds (ps := ["self", "sender", "row"]) fun _ _ _ _ _ _ us hl => match us, hl with | [_, _, _], _ => rfl, ⟨a_Host_work_comes, i_Host_work_comes, kp_Host_work_comes⟩⟩,
    m_Host_become_idle := ⟨F_Host_become_idle, F_Host_become_idle.binds (ps := ["self"]) fun _ _ _ _ _ _ us hl => match us, hl with | [_], _ => rfl, ⟨a_Host_become_idle, i_Host_become_idle, kp_Host_become_idle⟩⟩,
    m_Host_watch := ⟨F_Host_watch, F_Host_watch.binds (ps := ["self"]) fun _ _ _ _ _ _ us hl => match us, hl with | [_], _ => rfl, ⟨a_Host_watch, i_Host_watch, kp_Host_watch⟩⟩,
    m_Host_token_comes := ⟨F_Host_token_comes, F_Host_token_comes.binds (ps := ["self", "black", "total"]) fun _ _ _ _ _ _ us hl => match us, hl with | [_, _, _], _ => rfl, ⟨a_Host_token_comes, i_Host_token_comes, kp_Host_token_comes⟩⟩,
    m_Host_pass_token := ⟨F_Host_pass_token, F_Host_pass_token.binds (ps := ["self"]) fun _ _ _ _ _ _ us hl => match us, hl with | [_], _ => rfl, ⟨a_Host_pass_token, i_Host_pass_token, kp_Host_pass_token⟩⟩,
    m_Host_last_cut_is_whole := ⟨F_Host_last_cut_is_whole, F_Host_last_cut_is_whole.binds (ps := ["self"]) fun _ _ _ _ _ _ us hl => match us, hl with | [_], _ => rfl, ⟨a_Host_last_cut_is_whole, i_Host_last_cut_is_whole, kp_Host_last_cut_is_whole⟩⟩,
    m_Host_begin_cut := ⟨F_Host_begin_cut, F_Host_begin_cut.binds (ps := ["self"]) fun _ _ _ _ _ _ us hl => match us, hl with | [_], _ => rfl, ⟨a_Host_begin_cut, i_Host_begin_cut, kp_Host_begin_cut⟩⟩,
    m_Host_begin_recording := ⟨F_Host_begin_recording, F_Host_begin_recording.binds (ps := ["self", "who", "number", "closed"]) fun _ _ _ _ _ _ us hl => match us, hl with | [_, _, _, _], _ => rfl, ⟨a_Host_begin_recording, i_Host_begin_recording, kp_Host_begin_recording⟩⟩,
    m_Host_marker_comes := ⟨F_Host_marker_comes, F_Host_marker_comes.binds (ps := ["self", "sender", "who", "number"]) fun _ _ _ _ _ _ us hl => match us, hl with | [_, _, _, _], _ => rfl, ⟨a_Host_marker_comes, i_Host_marker_comes, kp_Host_marker_comes⟩⟩,
    m_Host_end_recording_if_done := ⟨F_Host_end_recording_if_done, F_Host_end_recording_if_done.binds (ps := ["self", "who"]) fun _ _ _ _ _ _ us hl => match us, hl with | [_, _], _ => rfl, ⟨a_Host_end_recording_if_done, i_Host_end_recording_if_done, kp_Host_end_recording_if_done⟩⟩,
    m_Host_record_comes := ⟨F_Host_record_comes, F_Host_record_comes.binds (ps := ["self", "sender", "number", "record"]) fun _ _ _ _ _ _ us hl => match us, hl with | [_, _, _, _], _ => rfl, ⟨a_Host_record_comes, i_Host_record_comes, kp_Host_record_comes⟩⟩,
    m_Host_cut_bytes := ⟨F_Host_cut_bytes, F_Host_cut_bytes.binds (ps := ["self"]) fun _ _ _ _ _ _ us hl => match us, hl with | [_], _ => rfl, ⟨a_Host_cut_bytes, i_Host_cut_bytes, kp_Host_cut_bytes⟩⟩,
    m_Host_is_blocked := ⟨F_Host_is_blocked, F_Host_is_blocked.binds (ps := ["self"]) fun _ _ _ _ _ _ us hl => match us, hl with | [_], _ => rfl, ⟨a_Host_is_blocked, i_Host_is_blocked, kp_Host_is_blocked⟩⟩,
    m_Host_want := ⟨F_Host_want, F_Host_want.binds (ps := ["self", "who"]) fun _ _ _ _ _ _ us hl => match us, hl with | [_, _], _ => rfl, ⟨a_Host_want, i_Host_want, kp_Host_want⟩⟩,
    m_Host_want_comes := ⟨F_Host_want_comes, F_Host_want_comes.binds (ps := ["self", "sender"]) fun _ _ _ _ _ _ us hl => match us, hl with | [_, _], _ => rfl, ⟨a_Host_want_comes, i_Host_want_comes, kp_Host_want_comes⟩⟩,
    m_Host_grant := ⟨F_Host_grant, F_Host_grant.binds (ps := ["self", "who"]) fun _ _ _ _ _ _ us hl => match us, hl with | [_, _], _ => rfl, ⟨a_Host_grant, i_Host_grant, kp_Host_grant⟩⟩,
    m_Host_grant_comes := ⟨F_Host_grant_comes, F_Host_grant_comes.binds (ps := ["self", "sender"]) fun _ _ _ _ _ _ us hl => match us, hl with | [_, _], _ => rfl, ⟨a_Host_grant_comes, i_Host_grant_comes, kp_Host_grant_comes⟩⟩,
    m_Host_suspect := ⟨F_Host_suspect, F_Host_suspect.binds (ps := ["self"]) fun _ _ _ _ _ _ us hl => match us, hl with | [_], _ => rfl, ⟨a_Host_suspect, i_Host_suspect, kp_Host_suspect⟩⟩,
    m_Host_send_probe := ⟨F_Host_send_probe, F_Host_send_probe.binds (ps := ["self", "who", "number"]) fun _ _ _ _ _ _ us hl => match us, hl with | [_, _, _], _ => rfl, ⟨a_Host_send_probe, i_Host_send_probe, kp_Host_send_probe⟩⟩,
    m_Host_probe_comes := ⟨F_Host_probe_comes, F_Host_probe_comes.binds (ps := ["self", "sender", "who", "number"]) fun _ _ _ _ _ _ us hl => match us, hl with | [_, _, _, _], _ => rfl, ⟨a_Host_probe_comes, i_Host_probe_comes, kp_Host_probe_comes⟩⟩,
    m_Reader_init := ⟨F_Reader_init, F_Reader_init.binds (ps := ["self", "numbers"]) fun _ _ _ _ _ _ us hl => match us, hl with | [_, _], _ => rfl, ⟨a_Reader_init, i_Reader_init, kp_Reader_init⟩⟩,
    m_Reader_has_more := ⟨F_Reader_has_more, F_Reader_has_more.binds (ps := ["self"]) fun _ _ _ _ _ _ us hl => match us, hl with | [_], _ => rfl, ⟨a_Reader_has_more, i_Reader_has_more, kp_Reader_has_more⟩⟩,
    m_Reader_take_number := ⟨F_Reader_take_number, F_Reader_take_number.binds (ps := ["self"]) fun _ _ _ _ _ _ us hl => match us, hl with | [_], _ => rfl, ⟨a_Reader_take_number, i_Reader_take_number, kp_Reader_take_number⟩⟩,
    m_Reader_take_row := ⟨F_Reader_take_row, F_Reader_take_row.binds (ps := ["self"]) fun _ _ _ _ _ _ us hl => match us, hl with | [_], _ => rfl, ⟨a_Reader_take_row, i_Reader_take_row, kp_Reader_take_row⟩⟩,
    g_answer_one := ⟨F_answer_one, F_answer_one.binds (ps := ["host", "reader"]) fun _ _ _ _ _ _ us hl => match us, hl with | [_, _], _ => rfl, PySem.W.mg_of X G a_answer_one⟩,
    g_answers_on := ⟨F_answers_on, F_answers_on.binds (ps := ["host", "calls"]) fun _ _ _ _ _ _ us hl => match us, hl with | [_, _], _ => rfl, PySem.W.mg_of X G a_answers_on⟩,
    g_answers := ⟨F_answers, F_answers.binds (ps := ["calls"]) fun _ _ _ _ _ _ us hl => match us, hl with | [_], _ => rfl, PySem.W.mg_of X G a_answers⟩,
    k_WORK := PySem.W.mg_of X G k_WORK,
    k_TOKEN := PySem.W.mg_of X G k_TOKEN,
    k_MARKER := PySem.W.mg_of X G k_MARKER,
    k_RECORD := PySem.W.mg_of X G k_RECORD,
    k_WANT_messages := PySem.W.mg_of X G k_WANT_messages,
    k_GRANT_messages := PySem.W.mg_of X G k_GRANT_messages,
    k_PROBE := PySem.W.mg_of X G k_PROBE,
    k_MOST_BYTES := PySem.W.mg_of X G k_MOST_BYTES,
    k_MOST_WORKS := PySem.W.mg_of X G k_MOST_WORKS,
    k_SIX_BYTES := PySem.W.mg_of X G k_SIX_BYTES,
    k_TOO_MUCH_AT := PySem.W.mg_of X G k_TOO_MUCH_AT,
    k_STATE_AT := PySem.W.mg_of X G k_STATE_AT,
    k_NO_ROOM := PySem.W.mg_of X G k_NO_ROOM,
    k_WRONG := PySem.W.mg_of X G k_WRONG,
    k_NOT_NOW := PySem.W.mg_of X G k_NOT_NOW,
    k_TOO_MANY := PySem.W.mg_of X G k_TOO_MANY,
    k_MOST_HOSTS := PySem.W.mg_of X G k_MOST_HOSTS,
    k_MOST_MESSAGE := PySem.W.mg_of X G k_MOST_MESSAGE,
    k_MOST_WAITING := PySem.W.mg_of X G k_MOST_WAITING,
    k_LAST_NUMBER := PySem.W.mg_of X G k_LAST_NUMBER,
    k_TOLD_BELOW := PySem.W.mg_of X G k_TOLD_BELOW,
    k_MOST_OUTGOING := PySem.W.mg_of X G k_MOST_OUTGOING,
    k_GOES_ROUND_AT := PySem.W.mg_of X G k_GOES_ROUND_AT,
    k_BEGIN := PySem.W.mg_of X G k_BEGIN,
    k_STATE := PySem.W.mg_of X G k_STATE,
    k_SEND := PySem.W.mg_of X G k_SEND,
    k_IDLE := PySem.W.mg_of X G k_IDLE,
    k_WATCH := PySem.W.mg_of X G k_WATCH,
    k_SNAPSHOT := PySem.W.mg_of X G k_SNAPSHOT,
    k_WANT_host := PySem.W.mg_of X G k_WANT_host,
    k_GRANT_host := PySem.W.mg_of X G k_GRANT_host,
    k_SUSPECT := PySem.W.mg_of X G k_SUSPECT,
    k_MESSAGE := PySem.W.mg_of X G k_MESSAGE,
    k_OUTPUT := PySem.W.mg_of X G k_OUTPUT,
    k_TAKE := PySem.W.mg_of X G k_TAKE,
    k_CUT := PySem.W.mg_of X G k_CUT,
    k_TOLD := PySem.W.mg_of X G k_TOLD,
    b_any := PySem.W.mg_none_of X G b_any,
    b_len := PySem.W.mg_none_of X G b_len,
    b_list := PySem.W.mg_none_of X G b_list,
    b_range := PySem.W.mg_none_of X G b_range,
    b_reversed := PySem.W.mg_none_of X G b_reversed }
end My
namespace My
open PySem PySem.Spec PyProof.Rows L2
section
variable {X : Cx} {pins : List (Addr × Obj)} {σ : L2.St} {H : Hp} {s : Shared}
theorem rdM {l : Addr} {xs : List V} (I : Inv X pins σ H s) (hH : Rd H l (.lst xs)) : xs.length ≤ sizeLine ∧ ∃ (its : List Value) (n : Nat), Vals xs its ∧ xs.length = its.length ∧ s.heap.get? l = some { cls := .type "list", data := .seq its.toArray n } := by
  obtain ⟨z, its, n, r, e⟩ := hH.ok I.hok
  exact ⟨z, its, n, r, r.length, e⟩
end
section
variable {X : Cx}
def rCatR : R2 := fun x y H Q => ∃ l b xs zs, x = .ref l ∧ y = .ref b ∧ Rd H l (.lst xs) ∧ Rd H b (.lst zs) ∧ xs.length + zs.length ≤ sizeLine ∧ ∀ p, H p = none → Q (.ref p) (upd H p (.lst (xs ++ zs)))
theorem op_catR : OpR X (binaryOp .Add) rCatR := by
  intro pins s σ H x y v u Q I rx ry h
  obtain ⟨l, b, xs, zs, rfl, rfl, hH, hB, hz, q⟩ := h
  cases rx
  cases ry
  obtain ⟨z, its, n, r, hl, e⟩ := rdM I hH
  obtain ⟨z2, its2, n2, r2, hl2, e2⟩ := rdM I hB
  refine PySem.P.add_list e e2 ?_ (by rw [List.size_toArray, List.size_toArray]; omega)
  have ea : its.toArray ++ its2.toArray = (its ++ its2).toArray := by simp
  rw [ea]
  exact ⟨.ref _, _, I.lnew (t' := s.toks) (r.append r2) (by rw [List.length_append]; omega), rfl, q _ I.fresh⟩
def rExtendR : V → List V → Hp → VK → Prop := fun x vs H Q => ∃ l b xs zs, x = .ref l ∧ vs = [.ref b] ∧ H l = some (.lst xs) ∧ Rd H b (.lst zs) ∧ xs.length + zs.length ≤ sizeLine ∧ Q .non (upd H l (.lst (xs ++ zs)))
theorem mt_extendR : MtM X "list.extend" rExtendR := by
  intro pins s σ H x vs v us Q I rx rv h
  obtain ⟨l, b, xs, zs, rfl, rfl, hH, hB, hz, q⟩ := h
  cases rx
  obtain ⟨u, rfl, ru⟩ := rv.one
  cases ru
  obtain ⟨z, its, n, r, hl, e⟩ := I.lstM hH
  obtain ⟨z2, its2, n2, r2, hl2, e2⟩ := rdM I hB
  have hsz : its.toArray.size + its2.toArray.size ≤ sizeLine := by rw [List.size_toArray, List.size_toArray]; omega
  have hlong : ¬ (!its.toArray.isEmpty && Builtin.List.listTooLong (its.toArray.size + its2.toArray.size)) = true := by
    rw [notLongL hsz, Bool.and_false]
    exact Bool.false_ne_true
  refine call_meets F.slot_list_extend ⟨_, e, rfl⟩ F.entry_list_extend (F.args_list_extend_2 _ _)
    (AutoSeq1.list_extend_list_list_0 l its.toArray n b its2.toArray n2 hlong (by rw [List.size_toArray]; omega) (by omega)) ⟨e, e2, ?_⟩
  refine ⟨.non, _, I.lset (its' := its ++ its2) hH e (by simp) (r.append r2) ?_, rfl, q⟩
  rw [List.length_append]
  omega
end
section
variable {K : PySem.W.Frag} {σ : L2.St} {H : Hp} {Q : VK} {QT : Bool → Hp → Prop} {QA : List V → Hp → Prop} {D : Ends} {ta tb te : TE} {tr : TA} {t u : TS} {c d : TT} {v w : V} {i j : Int} {k : Nat} {f m : Str} {a C dx : Addr} {fs : List (Str × V)}
def kTest (x : V) (H : Hp) (QT : Bool → Hp → Prop) : Prop := ∃ b, x = .bl b ∧ QT b H
def kFld (K : PySem.W.Frag) (f : Str) (x : V) (H : Hp) (Q : VK) : Prop := ∃ a C dx fs v, x = .ref a ∧ H a = some (.ins C dx fs) ∧ Cls K C ∧ NoAttr K C f ∧ fs.lookup f = some v ∧ Q v H
def kPut (K : PySem.W.Frag) (f : Str) (y x : V) (H : Hp) (N : Hp → Prop) : Prop := ∃ a C dx fs, x = .ref a ∧ H a = some (.ins C dx fs) ∧ Cls K C ∧ NoAttr K C f ∧ fs.length < 1000 ∧ N (upd H a (.ins C dx (putF f y fs)))
def kMeth (C : Addr) (m : Str) (sp : Sp) (E : XK) (t : TA) (σ : L2.St) (x : V) (H : Hp) (Q : VK) : Prop := ∃ a dx fs, x = .ref a ∧ H a = some (.ins C dx fs) ∧ fs.lookup m = none ∧ t σ H fun vs H2 => sp (x :: (vs ++ [])) H2 Q E
def kLst (xs : List V) (H : Hp) (Q : VK) : Prop := xs.length ≤ sizeLine ∧ ∀ p, H p = none → Q (.ref p) (upd H p (.lst xs))
def kTup (xs : List V) (H : Hp) (Q : VK) : Prop := xs.length ≤ sizeLine ∧ ∀ p, H p = none → Q (.ref p) (upd H p (.tup xs))
def kPart (x : V) (H : Hp) (R : Option Int → Hp → Prop) : Prop := ∃ i, x = .int i ∧ R (some i) H
def kBM (K : PySem.W.Frag) (T : String) (r : V → List V → Hp → VK → Prop) (t : TA) (σ : L2.St) (x : V) (H : Hp) (Q : VK) : Prop := tyV K T x H ∧ t σ H fun xs H2 => r x xs H2 Q
def kFrz (v : V) (H : Hp) (Q : VK) : Prop := ∃ d u, v = .ref d ∧ H d = some u ∧ Mut (some u) ∧ ∀ od, Q v (upd H d (.frz od u))
def kAndV (tb : TE) (σ : L2.St) (x : V) (H : Hp) (Q : VK) : Prop := ∃ c, x = .bl c ∧ if c = true then tb σ H Q else Q (.bl false) H
def kOrV (tb : TE) (σ : L2.St) (x : V) (H : Hp) (Q : VK) : Prop := ∃ c, x = .bl c ∧ if c = true then Q (.bl true) H else tb σ H Q
theorem rd_var {n : Nat} (h : ∃ v, σ[n]? = some (some v) ∧ Q v H) : tVar n σ H Q := h
theorem rd_C (h : Q v H) : tC v σ H Q := h
theorem rd_seq (h : t { D with nx := u D } σ H) : tSeq t u D σ H := h
theorem rd_next (h : D.nx σ H) : tNext D σ H := h
theorem rd_nx {a : L2.St → Hp → Prop} {r : VK} {b e : L2.St → Hp → Prop} (h : a σ H) : Ends.nx ⟨a, r, b, e⟩ σ H := h
theorem rd_rt {a : L2.St → Hp → Prop} {r : VK} {b e : L2.St → Hp → Prop} (h : r v H) : Ends.rt ⟨a, r, b, e⟩ v H := h
theorem rd_drop (h : te σ H fun _ H1 => D.nx σ H1) : tDrop te D σ H := h
theorem rd_ret (h : te σ H D.rt) : tRet te D σ H := h
theorem rd_retN (h : D.rt .non H) : tRetN D σ H := h
theorem rd_ifS (h : c σ H fun b H1 => if b = true then t D σ H1 else u D σ H1) : tIfS c t u D σ H := h
theorem rd_asg {g : TG} (h : te σ H fun x H1 => g x σ H1 D.nx) : tAsg te g D σ H := h
theorem rd_gname {n : Nat} {N : L2.St → Hp → Prop} (h : N (σ.set n (some v)) H) : gName n v σ H N := h
theorem rd_test (h : ta σ H fun x H1 => kTest x H1 QT) : tTest ta σ H QT := h
theorem rd_B (h : ta σ H fun x H1 => kTest x H1 QT) : tB ta σ H QT := h
theorem rd_kTest {b : Bool} (h : QT b H) : kTest (.bl b) H QT := ⟨b, rfl, h⟩
theorem rd_or (h : c σ H fun b H1 => if b = true then QT true H1 else d σ H1 QT) : tOr c d σ H QT := h
theorem rd_and (h : c σ H fun b H1 => if b = true then d σ H1 QT else QT false H1) : tAnd c d σ H QT := h
theorem rd_not (h : c σ H fun b H1 => QT (!b) H1) : tNot c σ H QT := h
theorem rd_andV (h : ta σ H fun x H1 => kAndV tb σ x H1 Q) : tAndV ta tb σ H Q := h
theorem rd_orV (h : ta σ H fun x H1 => kOrV tb σ x H1 Q) : tOrV ta tb σ H Q := h
theorem rd_kAndV {b : Bool} (h : if b = true then tb σ H Q else Q (.bl false) H) : kAndV tb σ (.bl b) H Q := ⟨b, rfl, h⟩
theorem rd_kOrV {b : Bool} (h : if b = true then Q (.bl true) H else tb σ H Q) : kOrV tb σ (.bl b) H Q := ⟨b, rfl, h⟩
theorem rd_if (h : c σ H fun b H1 => if b = true then ta σ H1 Q else tb σ H1 Q) : tIf c ta tb σ H Q := h
theorem rd_op {r : R2} (h : ta σ H fun x H1 => tb σ H1 fun y H2 => r x y H2 Q) : tOp r ta tb σ H Q := h
theorem rd_I0 {g : Int → Int → V} (h : Q (g i j) H) : rI0 g (.int i) (.int j) H Q := ⟨i, j, rfl, rfl, h⟩
theorem rd_I {P : Int → Int → Prop} {g : Int → Int → V} (p : P i j) (h : Q (g i j) H) : rI P g (.int i) (.int j) H Q := ⟨i, j, rfl, rfl, p, h⟩
theorem rd_Eq (h : Q (.bl (decide (i = j))) H) : rEq (.int i) (.int j) H Q := ⟨rfl, by
  have e : decide (V.int i = V.int j) = decide (i = j) := by
    by_cases z : i = j
    · rw [decide_eq_true z, decide_eq_true (congrArg V.int z)]
    · rw [decide_eq_false z, decide_eq_false fun q => z (V.int.inj q)]
  rw [e]; exact h⟩
theorem rd_Ne (h : Q (.bl (!decide (i = j))) H) : rNe (.int i) (.int j) H Q := ⟨rfl, by
  have e : decide (V.int i = V.int j) = decide (i = j) := by
    by_cases z : i = j
    · rw [decide_eq_true z, decide_eq_true (congrArg V.int z)]
    · rw [decide_eq_false z, decide_eq_false fun q => z (V.int.inj q)]
  rw [e]; exact h⟩
theorem rd_fld (h : ta σ H fun x H1 => kFld K f x H1 Q) : tFld K ta f σ H Q := h
theorem rd_kFld (e : H a = some (.ins C dx fs)) (cl : Cls K C) (na : NoAttr K C f) (l : fs.lookup f = some v) (h : Q v H) : kFld K f (.ref a) H Q := ⟨a, C, dx, fs, v, rfl, e, cl, na, l, h⟩
theorem rd_put (h : tb σ H fun y H1 => ta σ H1 fun x H2 => kPut K f y x H2 (D.nx σ)) : sFld K ta tb f D σ H := h
theorem rd_kPut {N : Hp → Prop} (e : H a = some (.ins C dx fs)) (cl : Cls K C) (na : NoAttr K C f) (l : fs.length < 1000) (h : N (upd H a (.ins C dx (putF f v fs)))) : kPut K f v (.ref a) H N := ⟨a, C, dx, fs, rfl, e, cl, na, l, h⟩
theorem rd_cons (h : ta σ H fun x H1 => tr σ H1 fun xs H2 => QA (x :: xs) H2) : tCons ta tr σ H QA := h
theorem rd_nil (h : QA [] H) : tNil σ H QA := h
theorem rd_call {sp : Sp} {E : XK} (h : tr σ H fun vs H1 => sp vs H1 Q E) : tCall sp [] E tr σ H Q := by
  have e : tCall sp [] E tr σ H Q = (tr σ H fun vs H1 => sp vs H1 Q E) := by
    unfold tCall
    simp only [List.append_nil]
  rw [e]; exact h
theorem rd_meth {sp : Sp} {E : XK} (h : ta σ H fun x H1 => kMeth C m sp E tr σ x H1 Q) : tMeth C m sp [] E ta tr σ H Q := h
theorem rd_kMeth {sp : Sp} {E : XK} (e : H a = some (.ins C dx fs)) (l : fs.lookup m = none) (h : tr σ H fun vs H2 => sp (.ref a :: vs) H2 Q E) : kMeth C m sp E tr σ (.ref a) H Q :=
  ⟨a, dx, fs, rfl, e, l, by simp only [List.append_nil]; exact h⟩
theorem rd_make {sp : Sp} {E : XK} (h : tr σ H fun vs H1 => ∀ x dx, H1 x = none → H1 dx = none → dx ≠ x → sp (.ref x :: vs) (upd (upd H1 dx (.own x)) x (.ins C dx [])) (fun v H2 => v = .non ∧ Q (.ref x) H2) E) : tMake C sp [] E tr σ H Q := by
  unfold tMake
  simp only [List.append_nil]
  exact h
theorem rd_lst (h : tr σ H fun xs H1 => kLst xs H1 Q) : tLst tr σ H Q := h
theorem rd_tup (h : tr σ H fun xs H1 => kTup xs H1 Q) : tTup tr σ H Q := h
theorem rd_kLst {xs : List V} (l : xs.length ≤ sizeLine) (h : ∀ p, H p = none → Q (.ref p) (upd H p (.lst xs))) : kLst xs H Q := ⟨l, h⟩
theorem rd_kTup {xs : List V} (l : xs.length ≤ sizeLine) (h : ∀ p, H p = none → Q (.ref p) (upd H p (.tup xs))) : kTup xs H Q := ⟨l, h⟩
theorem rd_CB {r : List V → Hp → VK → Prop} (h : tr σ H fun vs H1 => r vs H1 Q) : tCB r tr σ H Q := h
theorem rd_sl {r : V → Option Int → Option Int → Hp → VK → Prop} {tl th : TO} (h : te σ H fun x H1 => tl σ H1 fun l H2 => th σ H2 fun u H3 => r x l u H3 Q) : tSl r te tl th σ H Q := h
theorem rd_noPart {R : Option Int → Hp → Prop} (h : R none H) : tNoPart σ H R := h
theorem rd_part {R : Option Int → Hp → Prop} (h : te σ H fun x H1 => kPart x H1 R) : tPart te σ H R := h
theorem rd_kPart {R : Option Int → Hp → Prop} (h : R (some i) H) : kPart (.int i) H R := ⟨i, rfl, h⟩
theorem rd_BM {T : String} {r : V → List V → Hp → VK → Prop} (h : te σ H fun x H1 => kBM K T r tr σ x H1 Q) : tBM K T r te tr σ H Q := h
theorem rd_kBM {r : V → List V → Hp → VK → Prop} {xs : List V} (e : SqL K H a xs) (h : tr σ H fun ys H2 => r (.ref a) ys H2 Q) : kBM K "list" r tr σ (.ref a) H Q := ⟨.inl ⟨rfl, xs, e⟩, h⟩
theorem rd_frz (h : te σ H fun v H1 => kFrz v H1 Q) : tFrz te σ H Q := h
theorem rd_kFrz {o : HO} (e : H a = some o) (mu : Mut (some o)) (h : ∀ od, Q (.ref a) (upd H a (.frz od o))) : kFrz (.ref a) H Q := ⟨a, o, rfl, e, mu, h⟩
theorem rd_IxL {xs : List V} {n : Nat} (e : SqL K H a xs) (g : xs[n]? = some v) (h : Q v H) : rIxL K (.ref a) (.int (n : Nat)) H Q := ⟨a, xs, n, v, rfl, rfl, e, atI_nat g, h⟩
theorem rd_SlL {xs : List V} {lo hi : Option Int} (e : SqL K H a xs) (h : ∀ p, H p = none → Q (.ref p) (upd H p (.lst (cutV xs lo hi)))) : rSlL K (.ref a) lo hi H Q := ⟨a, xs, rfl, e, h⟩
theorem rd_cat {b : Addr} {xs ys : List V} (e1 : Rd H a (.lst xs)) (e2 : Rd H b (.lst ys)) (l : xs.length + ys.length ≤ sizeLine) (h : ∀ p, H p = none → Q (.ref p) (upd H p (.lst (xs ++ ys)))) : rCatR (.ref a) (.ref b) H Q := ⟨a, b, xs, ys, rfl, rfl, e1, e2, l, h⟩
theorem rd_app {xs : List V} (e : H a = some (.lst xs)) (l : xs.length < sizeLine) (h : Q .non (upd H a (.lst (xs ++ [v])))) : rAppend (.ref a) [v] H Q := ⟨a, xs, v, rfl, rfl, e, l, h⟩
theorem rd_ext {b : Addr} {xs ys : List V} (e : H a = some (.lst xs)) (e2 : Rd H b (.lst ys)) (l : xs.length + ys.length ≤ sizeLine) (h : Q .non (upd H a (.lst (xs ++ ys)))) : rExtendR (.ref a) [.ref b] H Q := ⟨a, b, xs, ys, rfl, rfl, e, e2, l, h⟩
end
theorem rd_ite {b : Bool} {A B : Prop} (h1 : b = true → A) (h2 : b = false → B) : if b = true then A else B := by
  cases b with
  | true => rw [if_pos rfl]; exact h1 rfl
  | false => rw [if_neg Bool.false_ne_true]; exact h2 rfl
theorem rd_iteD {p A B : Prop} [Decidable p] (h1 : p → A) (h2 : ¬ p → B) : if decide p = true then A else B := by
  by_cases h : p
  · rw [decide_eq_true h, if_pos rfl]; exact h1 h
  · rw [decide_eq_false h, if_neg Bool.false_ne_true]; exact h2 h
theorem rd_iteN {b : Bool} {A B : Prop} (h1 : b = false → A) (h2 : b = true → B) : if (!b) = true then A else B := by
  cases b with
  | false => rw [show (!false) = true from rfl, if_pos rfl]; exact h1 rfl
  | true => rw [show (!true) = false from rfl, if_neg Bool.false_ne_true]; exact h2 rfl
end My
namespace My
open PySem PySem.Spec PyProof.Rows L2
structure FReader where
  numbers_ : Addr
  at_ : Int
def fReader (x : FReader) : List (Str × V) := [("numbers", (.ref x.numbers_)), ("at", (.int x.at_))]
theorem fReader_numbers (x : FReader) : (fReader x).lookup ("numbers" : Str) = some (.ref x.numbers_) := by kernel_rfl
theorem g_Reader_numbers {K : PySem.W.Frag} {mg : Str → Option Value} {A : Adr} {H : Hp} {p : Addr} {Q : VK} (T : Txt K mg A) (h : ∃ (dx : Addr) (x : FReader), H p = some (.ins A.c_Reader dx (fReader x)) ∧ Q (.ref x.numbers_) H) : kFld K "numbers" (.ref p) H Q := let ⟨_, x, h, q⟩ := h; rd_kFld h T.cl_Reader T.na_Reader_numbers (fReader_numbers x) q
theorem fReader_at (x : FReader) : (fReader x).lookup ("at" : Str) = some (.int x.at_) := by kernel_rfl
theorem fReader_put_at (x : FReader) (v : Int) : putF "at" (.int v) (fReader x) = fReader { x with at_ := v } := by kernel_rfl
theorem g_Reader_at {K : PySem.W.Frag} {mg : Str → Option Value} {A : Adr} {H : Hp} {p : Addr} {Q : VK} (T : Txt K mg A) (h : ∃ (dx : Addr) (x : FReader), H p = some (.ins A.c_Reader dx (fReader x)) ∧ Q (.int x.at_) H) : kFld K "at" (.ref p) H Q := let ⟨_, x, h, q⟩ := h; rd_kFld h T.cl_Reader T.na_Reader_at (fReader_at x) q
theorem p_Reader_at {K : PySem.W.Frag} {mg : Str → Option Value} {A : Adr} {H : Hp} {p : Addr} {N : Hp → Prop} {v : Int} (T : Txt K mg A) (h : ∃ (dx : Addr) (x : FReader), H p = some (.ins A.c_Reader dx (fReader x)) ∧ N (upd H p (.ins A.c_Reader dx (fReader { x with at_ := v })))) : kPut K "at" (.int v) (.ref p) H N := let ⟨_, x, h, q⟩ := h; rd_kPut h T.cl_Reader T.na_Reader_at (Nat.le_of_ble_eq_true rfl) (by rw [fReader_put_at]; exact q)
structure FToken where
  black_ : Bool
  total_ : Int
def fToken (x : FToken) : List (Str × V) := [("black", (.bl x.black_)), ("total", (.int x.total_))]
theorem fToken_black (x : FToken) : (fToken x).lookup ("black" : Str) = some (.bl x.black_) := by kernel_rfl
theorem g_Token_black {K : PySem.W.Frag} {mg : Str → Option Value} {A : Adr} {H : Hp} {p : Addr} {Q : VK} (T : Txt K mg A) (h : ∃ (dx : Addr) (x : FToken), H p = some (.ins A.c_Token dx (fToken x)) ∧ Q (.bl x.black_) H) : kFld K "black" (.ref p) H Q := let ⟨_, x, h, q⟩ := h; rd_kFld h T.cl_Token T.na_Token_black (fToken_black x) q
theorem fToken_total (x : FToken) : (fToken x).lookup ("total" : Str) = some (.int x.total_) := by kernel_rfl
theorem g_Token_total {K : PySem.W.Frag} {mg : Str → Option Value} {A : Adr} {H : Hp} {p : Addr} {Q : VK} (T : Txt K mg A) (h : ∃ (dx : Addr) (x : FToken), H p = some (.ins A.c_Token dx (fToken x)) ∧ Q (.int x.total_) H) : kFld K "total" (.ref p) H Q := let ⟨_, x, h, q⟩ := h; rd_kFld h T.cl_Token T.na_Token_total (fToken_total x) q
structure FRecording where
  number_ : Int
  state_ : Addr
  ways_ : Addr
  works_ : Addr
  too_much_ : Bool
def fRecording (x : FRecording) : List (Str × V) := [("number", (.int x.number_)), ("state", (.ref x.state_)), ("ways", (.ref x.ways_)), ("works", (.ref x.works_)), ("too_much", (.bl x.too_much_))]
theorem fRecording_number (x : FRecording) : (fRecording x).lookup ("number" : Str) = some (.int x.number_) := by kernel_rfl
theorem g_Recording_number {K : PySem.W.Frag} {mg : Str → Option Value} {A : Adr} {H : Hp} {p : Addr} {Q : VK} (T : Txt K mg A) (h : ∃ (dx : Addr) (x : FRecording), H p = some (.ins A.c_Recording dx (fRecording x)) ∧ Q (.int x.number_) H) : kFld K "number" (.ref p) H Q := let ⟨_, x, h, q⟩ := h; rd_kFld h T.cl_Recording T.na_Recording_number (fRecording_number x) q
theorem fRecording_state (x : FRecording) : (fRecording x).lookup ("state" : Str) = some (.ref x.state_) := by kernel_rfl
theorem g_Recording_state {K : PySem.W.Frag} {mg : Str → Option Value} {A : Adr} {H : Hp} {p : Addr} {Q : VK} (T : Txt K mg A) (h : ∃ (dx : Addr) (x : FRecording), H p = some (.ins A.c_Recording dx (fRecording x)) ∧ Q (.ref x.state_) H) : kFld K "state" (.ref p) H Q := let ⟨_, x, h, q⟩ := h; rd_kFld h T.cl_Recording T.na_Recording_state (fRecording_state x) q
theorem fRecording_ways (x : FRecording) : (fRecording x).lookup ("ways" : Str) = some (.ref x.ways_) := by kernel_rfl
theorem g_Recording_ways {K : PySem.W.Frag} {mg : Str → Option Value} {A : Adr} {H : Hp} {p : Addr} {Q : VK} (T : Txt K mg A) (h : ∃ (dx : Addr) (x : FRecording), H p = some (.ins A.c_Recording dx (fRecording x)) ∧ Q (.ref x.ways_) H) : kFld K "ways" (.ref p) H Q := let ⟨_, x, h, q⟩ := h; rd_kFld h T.cl_Recording T.na_Recording_ways (fRecording_ways x) q
theorem fRecording_works (x : FRecording) : (fRecording x).lookup ("works" : Str) = some (.ref x.works_) := by kernel_rfl
theorem g_Recording_works {K : PySem.W.Frag} {mg : Str → Option Value} {A : Adr} {H : Hp} {p : Addr} {Q : VK} (T : Txt K mg A) (h : ∃ (dx : Addr) (x : FRecording), H p = some (.ins A.c_Recording dx (fRecording x)) ∧ Q (.ref x.works_) H) : kFld K "works" (.ref p) H Q := let ⟨_, x, h, q⟩ := h; rd_kFld h T.cl_Recording T.na_Recording_works (fRecording_works x) q
theorem fRecording_too_much (x : FRecording) : (fRecording x).lookup ("too_much" : Str) = some (.bl x.too_much_) := by kernel_rfl
theorem fRecording_put_too_much (x : FRecording) (v : Bool) : putF "too_much" (.bl v) (fRecording x) = fRecording { x with too_much_ := v } := by kernel_rfl
theorem g_Recording_too_much {K : PySem.W.Frag} {mg : Str → Option Value} {A : Adr} {H : Hp} {p : Addr} {Q : VK} (T : Txt K mg A) (h : ∃ (dx : Addr) (x : FRecording), H p = some (.ins A.c_Recording dx (fRecording x)) ∧ Q (.bl x.too_much_) H) : kFld K "too_much" (.ref p) H Q := let ⟨_, x, h, q⟩ := h; rd_kFld h T.cl_Recording T.na_Recording_too_much (fRecording_too_much x) q
theorem p_Recording_too_much {K : PySem.W.Frag} {mg : Str → Option Value} {A : Adr} {H : Hp} {p : Addr} {N : Hp → Prop} {v : Bool} (T : Txt K mg A) (h : ∃ (dx : Addr) (x : FRecording), H p = some (.ins A.c_Recording dx (fRecording x)) ∧ N (upd H p (.ins A.c_Recording dx (fRecording { x with too_much_ := v })))) : kPut K "too_much" (.bl v) (.ref p) H N := let ⟨_, x, h, q⟩ := h; rd_kPut h T.cl_Recording T.na_Recording_too_much (Nat.le_of_ble_eq_true rfl) (by rw [fRecording_put_too_much]; exact q)
structure FHost where
  me_ : Int
  n_ : Int
  active_ : Bool
  state_ : Addr
  outgoing_ : Addr
  works_ : Addr
  balance_ : Int
  black_ : Bool
  watching_ : Bool
  token_ : V
  found_ : Bool
  cut_number_ : Int
  records_ : Addr
  recordings_ : Addr
  waits_ : Addr
  owes_ : Addr
  suspect_number_ : Int
  counted_ : Addr
  locked_ : Bool
def fHost (x : FHost) : List (Str × V) := [("me", (.int x.me_)), ("n", (.int x.n_)), ("active", (.bl x.active_)), ("state", (.ref x.state_)), ("outgoing", (.ref x.outgoing_)), ("works", (.ref x.works_)), ("balance", (.int x.balance_)), ("black", (.bl x.black_)), ("watching", (.bl x.watching_)), ("token", x.token_), ("found", (.bl x.found_)), ("cut_number", (.int x.cut_number_)), ("records", (.ref x.records_)), ("recordings", (.ref x.recordings_)), ("waits", (.ref x.waits_)), ("owes", (.ref x.owes_)), ("suspect_number", (.int x.suspect_number_)), ("counted", (.ref x.counted_)), ("locked", (.bl x.locked_))]
theorem fHost_me (x : FHost) : (fHost x).lookup ("me" : Str) = some (.int x.me_) := by kernel_rfl
theorem fHost_n (x : FHost) : (fHost x).lookup ("n" : Str) = some (.int x.n_) := by kernel_rfl
theorem fHost_active (x : FHost) : (fHost x).lookup ("active" : Str) = some (.bl x.active_) := by kernel_rfl
theorem fHost_put_active (x : FHost) (v : Bool) : putF "active" (.bl v) (fHost x) = fHost { x with active_ := v } := by kernel_rfl
theorem fHost_state (x : FHost) : (fHost x).lookup ("state" : Str) = some (.ref x.state_) := by kernel_rfl
theorem fHost_put_state (x : FHost) (v : Addr) : putF "state" (.ref v) (fHost x) = fHost { x with state_ := v } := by kernel_rfl
theorem fHost_outgoing (x : FHost) : (fHost x).lookup ("outgoing" : Str) = some (.ref x.outgoing_) := by kernel_rfl
theorem fHost_works (x : FHost) : (fHost x).lookup ("works" : Str) = some (.ref x.works_) := by kernel_rfl
theorem fHost_balance (x : FHost) : (fHost x).lookup ("balance" : Str) = some (.int x.balance_) := by kernel_rfl
theorem fHost_put_balance (x : FHost) (v : Int) : putF "balance" (.int v) (fHost x) = fHost { x with balance_ := v } := by kernel_rfl
theorem fHost_black (x : FHost) : (fHost x).lookup ("black" : Str) = some (.bl x.black_) := by kernel_rfl
theorem fHost_put_black (x : FHost) (v : Bool) : putF "black" (.bl v) (fHost x) = fHost { x with black_ := v } := by kernel_rfl
theorem fHost_watching (x : FHost) : (fHost x).lookup ("watching" : Str) = some (.bl x.watching_) := by kernel_rfl
theorem fHost_put_watching (x : FHost) (v : Bool) : putF "watching" (.bl v) (fHost x) = fHost { x with watching_ := v } := by kernel_rfl
theorem fHost_token (x : FHost) : (fHost x).lookup ("token" : Str) = some x.token_ := by kernel_rfl
theorem fHost_put_token (x : FHost) (v : V) : putF "token" v (fHost x) = fHost { x with token_ := v } := by kernel_rfl
theorem fHost_found (x : FHost) : (fHost x).lookup ("found" : Str) = some (.bl x.found_) := by kernel_rfl
theorem fHost_put_found (x : FHost) (v : Bool) : putF "found" (.bl v) (fHost x) = fHost { x with found_ := v } := by kernel_rfl
theorem fHost_cut_number (x : FHost) : (fHost x).lookup ("cut_number" : Str) = some (.int x.cut_number_) := by kernel_rfl
theorem fHost_put_cut_number (x : FHost) (v : Int) : putF "cut_number" (.int v) (fHost x) = fHost { x with cut_number_ := v } := by kernel_rfl
theorem fHost_records (x : FHost) : (fHost x).lookup ("records" : Str) = some (.ref x.records_) := by kernel_rfl
theorem fHost_put_records (x : FHost) (v : Addr) : putF "records" (.ref v) (fHost x) = fHost { x with records_ := v } := by kernel_rfl
theorem fHost_recordings (x : FHost) : (fHost x).lookup ("recordings" : Str) = some (.ref x.recordings_) := by kernel_rfl
theorem fHost_waits (x : FHost) : (fHost x).lookup ("waits" : Str) = some (.ref x.waits_) := by kernel_rfl
theorem fHost_owes (x : FHost) : (fHost x).lookup ("owes" : Str) = some (.ref x.owes_) := by kernel_rfl
theorem fHost_suspect_number (x : FHost) : (fHost x).lookup ("suspect_number" : Str) = some (.int x.suspect_number_) := by kernel_rfl
theorem fHost_put_suspect_number (x : FHost) (v : Int) : putF "suspect_number" (.int v) (fHost x) = fHost { x with suspect_number_ := v } := by kernel_rfl
theorem fHost_counted (x : FHost) : (fHost x).lookup ("counted" : Str) = some (.ref x.counted_) := by kernel_rfl
theorem fHost_locked (x : FHost) : (fHost x).lookup ("locked" : Str) = some (.bl x.locked_) := by kernel_rfl
theorem fHost_put_locked (x : FHost) (v : Bool) : putF "locked" (.bl v) (fHost x) = fHost { x with locked_ := v } := by kernel_rfl
theorem nm_Reader_has_more (x : FReader) : (fReader x).lookup ("has_more" : Str) = none := by kernel_rfl
theorem nm_Reader_take_number (x : FReader) : (fReader x).lookup ("take_number" : Str) = none := by kernel_rfl
theorem nm_Reader_take_row (x : FReader) : (fReader x).lookup ("take_row" : Str) = none := by kernel_rfl
theorem nm_Recording_put_work (x : FRecording) : (fRecording x).lookup ("put_work" : Str) = none := by kernel_rfl
theorem nm_Host_begin (x : FHost) : (fHost x).lookup ("begin" : Str) = none := by kernel_rfl
theorem nm_Host_is_busy (x : FHost) : (fHost x).lookup ("is_busy" : Str) = none := by kernel_rfl
theorem nm_Host_is_other (x : FHost) : (fHost x).lookup ("is_other" : Str) = none := by kernel_rfl
theorem nm_Host_send (x : FHost) : (fHost x).lookup ("send" : Str) = none := by kernel_rfl
theorem nm_Host_send_to_all (x : FHost) : (fHost x).lookup ("send_to_all" : Str) = none := by kernel_rfl
theorem nm_Host_send_work (x : FHost) : (fHost x).lookup ("send_work" : Str) = none := by kernel_rfl
theorem nm_Host_work_comes (x : FHost) : (fHost x).lookup ("work_comes" : Str) = none := by kernel_rfl
theorem nm_Host_become_idle (x : FHost) : (fHost x).lookup ("become_idle" : Str) = none := by kernel_rfl
theorem nm_Host_watch (x : FHost) : (fHost x).lookup ("watch" : Str) = none := by kernel_rfl
theorem nm_Host_token_comes (x : FHost) : (fHost x).lookup ("token_comes" : Str) = none := by kernel_rfl
theorem nm_Host_pass_token (x : FHost) : (fHost x).lookup ("pass_token" : Str) = none := by kernel_rfl
theorem nm_Host_last_cut_is_whole (x : FHost) : (fHost x).lookup ("last_cut_is_whole" : Str) = none := by kernel_rfl
theorem nm_Host_begin_cut (x : FHost) : (fHost x).lookup ("begin_cut" : Str) = none := by kernel_rfl
theorem nm_Host_begin_recording (x : FHost) : (fHost x).lookup ("begin_recording" : Str) = none := by kernel_rfl
theorem nm_Host_marker_comes (x : FHost) : (fHost x).lookup ("marker_comes" : Str) = none := by kernel_rfl
theorem nm_Host_end_recording_if_done (x : FHost) : (fHost x).lookup ("end_recording_if_done" : Str) = none := by kernel_rfl
theorem nm_Host_record_comes (x : FHost) : (fHost x).lookup ("record_comes" : Str) = none := by kernel_rfl
theorem nm_Host_cut_bytes (x : FHost) : (fHost x).lookup ("cut_bytes" : Str) = none := by kernel_rfl
theorem nm_Host_is_blocked (x : FHost) : (fHost x).lookup ("is_blocked" : Str) = none := by kernel_rfl
theorem nm_Host_want (x : FHost) : (fHost x).lookup ("want" : Str) = none := by kernel_rfl
theorem nm_Host_want_comes (x : FHost) : (fHost x).lookup ("want_comes" : Str) = none := by kernel_rfl
theorem nm_Host_grant (x : FHost) : (fHost x).lookup ("grant" : Str) = none := by kernel_rfl
theorem nm_Host_grant_comes (x : FHost) : (fHost x).lookup ("grant_comes" : Str) = none := by kernel_rfl
theorem nm_Host_suspect (x : FHost) : (fHost x).lookup ("suspect" : Str) = none := by kernel_rfl
theorem nm_Host_send_probe (x : FHost) : (fHost x).lookup ("send_probe" : Str) = none := by kernel_rfl
theorem nm_Host_probe_comes (x : FHost) : (fHost x).lookup ("probe_comes" : Str) = none := by kernel_rfl
end My
namespace My
open PySem PySem.Spec PyProof.Rows L2
abbrev SS := Sa77.St
def Fz (H : Hp) (a : Addr) (xs : List Int) : Prop := ∃ o, H a = some (.frz o (.lst (xs.map V.int)))
def Pr (H : Hp) (v : V) (p : Int × List Int) : Prop := ∃ t b, v = .ref t ∧ H t = some (.tup [.int p.1, .ref b]) ∧ Fz H b p.2
def Prs (H : Hp) : List V → List (Int × List Int) → Prop := Paired (Pr H)
def outB (x : Nat × Sa77.Msg) : Int × List Int := (x.1, byL x.2.bytes)
def inB (x : Sa77.Work) : Int × List Int := (x.1, byL x.2)
def Rc (H : Hp) (kv : Key × V) (p : Sa77.Part) : Prop := kv.1 = .inl (p.host : Int) ∧ ∃ b, kv.2 = .ref b ∧ Fz H b (byL (Sa77.recordBytes p.much p.state p.got))
def Rcs (H : Hp) : List (Key × V) → List Sa77.Part → Prop := Paired (Rc H)
def Cnt (kc : List (Key × V)) (ps : List (Nat × Nat)) : Prop := kc.length = ps.length ∧ ∀ w : Nat, valV kc (.inl (w : Int)) = (ps.find? fun p => p.1 == w).map fun p => V.int p.2
structure Mono (H H' : Hp) : Prop where
  frz : ∀ a o u, H a = some (.frz o u) → H' a = some (.frz o u)
  tup : ∀ a xs, H a = some (.tup xs) → H' a = some (.tup xs)
theorem Mono.refl {H : Hp} : Mono H H := ⟨fun _ _ _ h => h, fun _ _ h => h⟩
theorem Mono.trans {H H1 H2 : Hp} (a : Mono H H1) (b : Mono H1 H2) : Mono H H2 := ⟨fun x o u h => b.frz x o u (a.frz x o u h), fun x o h => b.tup x o (a.tup x o h)⟩
def Free : HO → Prop
  | .frz _ _ => False
  | .tup _ => False
  | _ => True
theorem Mono.alloc {H : Hp} {p : Addr} {o : HO} (h : H p = none) : Mono H (upd H p o) := ⟨fun a _ _ e => by rw [upd_ne (ne_of_none e h)]; exact e, fun a _ e => by rw [upd_ne (ne_of_none e h)]; exact e⟩
theorem Mono.upd {H : Hp} {p : Addr} {x o : HO} (h : H p = some x) (f : Free x) : Mono H (L2.upd H p o) := ⟨fun a _ _ e => by
  rw [upd_ne (ne_of e h (by intro z; subst z; exact f))]; exact e, fun a _ e => by
  rw [upd_ne (ne_of e h (by intro z; subst z; exact f))]; exact e⟩
theorem Fz.mono {H H' : Hp} {a : Addr} {xs : List Int} (h : Fz H a xs) (m : Mono H H') : Fz H' a xs := let ⟨o, e⟩ := h; ⟨o, m.frz _ _ _ e⟩
theorem Pr.mono {H H' : Hp} {v : V} {p : Int × List Int} (h : Pr H v p) (m : Mono H H') : Pr H' v p := let ⟨t, b, e, e1, e2⟩ := h; ⟨t, b, e, m.tup _ _ e1, e2.mono m⟩
theorem Prs.mono {H H' : Hp} {vs : List V} {ps : List (Int × List Int)} (h : Prs H vs ps) (m : Mono H H') : Prs H' vs ps := Paired.mapP h fun _ _ r => r.mono m
theorem Rcs.mono {H H' : Hp} {vs : List (Key × V)} {ps : List Sa77.Part} (h : Rcs H vs ps) (m : Mono H H') : Rcs H' vs ps := Paired.mapP h fun _ _ r => let ⟨e, b, e1, e2⟩ := r; ⟨e, b, e1, e2.mono m⟩
theorem pd_snoc {α β : Type} {R : α → β → Prop} {a : α} {b : β} (r : R a b) : ∀ {xs : List α} {ys : List β}, Paired R xs ys → Paired R (xs ++ [a]) (ys ++ [b])
  | _, _, .nil => .cons r .nil
  | _, _, .cons q t => .cons q (pd_snoc r t)
inductive Tag where
  | host | out | works | records | recordings | waits | owes | counted | tok | rcd (w : Nat) | rway (w : Nat) | rwrk (w : Nat)
  deriving DecidableEq
structure Lay where
  ad : Tag → Addr
  hdx : Addr
  tdx : Addr
  rdx : Nat → Addr
  st : Addr
  vo : List V
  vw : List V
  kr : List (Key × V)
  kc : List (Key × V)
  rst : Nat → Addr
  rvs : Nat → List V
def onT (S : SS) : Tag → Prop
  | .tok => S.token ≠ none
  | .rcd w => recAt S w ≠ none
  | .rway w => recAt S w ≠ none
  | .rwrk w => recAt S w ≠ none
  | _ => True
def tokV (L : Lay) (S : SS) : V := match S.token with
  | none => .non
  | some _ => .ref (L.ad .tok)
def hostF (L : Lay) (S : SS) : FHost := { me_ := S.me, n_ := S.n, active_ := S.active, state_ := L.st, outgoing_ := L.ad .out, works_ := L.ad .works, balance_ := S.sum % 4294967296, black_ := S.black, watching_ := S.watches, token_ := tokV L S, found_ := S.found, cut_number_ := S.num, records_ := L.ad .records, recordings_ := L.ad .recordings, waits_ := L.ad .waits, owes_ := L.ad .owes, suspect_number_ := S.guess, counted_ := L.ad .counted, locked_ := S.locked }
def recF (L : Lay) (r : Sa77.Rec) : FRecording := { number_ := r.num, state_ := L.rst r.who, ways_ := L.ad (.rway r.who), works_ := L.ad (.rwrk r.who), too_much_ := r.much }
def tokC (A : Adr) (L : Lay) : Option (Bool × Int) → HO
  | none => .own 0
  | some (c, z) => .ins A.c_Token L.tdx (fToken { black_ := c, total_ := z % 4294967296 })
def rcdC (A : Adr) (L : Lay) (w : Nat) : Option Sa77.Rec → HO
  | none => .own 0
  | some r => .ins A.c_Recording (L.rdx w) (fRecording (recF L r))
def rwayC (n : Nat) : Option Sa77.Rec → HO
  | none => .own 0
  | some r => .lst ((blB n r.ways).map V.bl)
def cont (A : Adr) (L : Lay) (S : SS) : Tag → HO
  | .host => .ins A.c_Host L.hdx (fHost (hostF L S))
  | .out => .lst L.vo
  | .works => .lst L.vw
  | .records => .dK L.kr
  | .recordings => .dK (S.recs.map fun r => (.inl (r.who : Int), .ref (L.ad (.rcd r.who))))
  | .waits => .lst ((blB S.n S.wants).map V.bl)
  | .owes => .lst ((blB S.n S.owes).map V.bl)
  | .counted => .dK L.kc
  | .tok => tokC A L S.token
  | .rcd w => rcdC A L w (recAt S w)
  | .rway w => rwayC S.n (recAt S w)
  | .rwrk w => .lst (L.rvs w)
theorem cont_free {A : Adr} {L : Lay} {S : SS} (t : Tag) : Free (cont A L S t) := by
  cases t with
  | tok => show Free (tokC A L S.token); cases S.token <;> trivial
  | rcd w => show Free (rcdC A L w (recAt S w)); cases recAt S w <;> trivial
  | rway w => show Free (rwayC S.n (recAt S w)); cases recAt S w <;> trivial
  | _ => trivial
structure Fzs (H : Hp) (L : Lay) (S : SS) : Prop where
  st : Fz H L.st (byL S.state)
  out : Prs H L.vo (S.out.map outB)
  works : Prs H L.vw (S.inbox.map inB)
  parts : Rcs H L.kr S.parts
  cnt : Cnt L.kc S.probes
  rst : ∀ w r, recAt S w = some r → Fz H (L.rst w) (byL r.state)
  rvs : ∀ w r, recAt S w = some r → Prs H (L.rvs w) (r.got.map inB)
theorem Fzs.mono {H H' : Hp} {L : Lay} {S : SS} (f : Fzs H L S) (m : Mono H H') : Fzs H' L S :=
  ⟨f.st.mono m, f.out.mono m, f.works.mono m, f.parts.mono m, f.cnt, fun w r e => (f.rst w r e).mono m, fun w r e => (f.rvs w r e).mono m⟩
structure Rep (A : Adr) (h : Addr) (L : Lay) (H : Hp) (S : SS) : Prop where
  hh : L.ad .host = h
  co : ∀ t, onT S t → H (L.ad t) = some (cont A L S t)
  inj : ∀ t t', onT S t → onT S t' → L.ad t = L.ad t' → t = t'
  fz : Fzs H L S
structure Fr (L : Lay) (S : SS) (H : Hp) (L' : Lay) (S' : SS) (H' : Hp) : Prop where
  keep : ∀ a o, H a = some o → (∀ t, onT S t → L.ad t ≠ a) → H' a = some o
  own : ∀ t, onT S' t → (∃ t', onT S t' ∧ L.ad t' = L'.ad t) ∨ H (L'.ad t) = none
  dom : ∀ a, H' a = none → H a = none
  mono : Mono H H'
theorem Fr.refl {L : Lay} {S : SS} {H : Hp} : Fr L S H L S H := ⟨fun _ _ h _ => h, fun t h => .inl ⟨t, h, rfl⟩, fun _ h => h, .refl⟩
theorem Fr.trans {L L1 L2 : Lay} {S S1 S2 : SS} {H H1 H2 : Hp} (a : Fr L S H L1 S1 H1) (b : Fr L1 S1 H1 L2 S2 H2) : Fr L S H L2 S2 H2 where
  keep := fun x o e hx => b.keep x o (a.keep x o e hx) fun t ht q => by
    rcases a.own t ht with ⟨t', h1, h2⟩ | h1
    · exact hx t' h1 (h2.trans q)
    · rw [q, e] at h1; cases h1
  own := fun t ht => by
    rcases b.own t ht with ⟨t', h1, h2⟩ | h1
    · rcases a.own t' h1 with ⟨t2, h3, h4⟩ | h3
      · exact .inl ⟨t2, h3, h4.trans h2⟩
      · rw [h2] at h3; exact .inr h3
    · exact .inr (a.dom _ h1)
  dom := fun x h => a.dom x (b.dom x h)
  mono := a.mono.trans b.mono
structure Run (A : Adr) (h : Addr) (L0 : Lay) (S0 : SS) (H0 : Hp) (L : Lay) (H : Hp) (S : SS) : Prop where
  rep : Rep A h L H S
  fr : Fr L0 S0 H0 L S H
section
variable {A : Adr} {h : Addr} {L0 L L' L1 : Lay} {S0 S S' S1 : SS} {H0 H H1 : Hp} {p x : Addr} {o : HO} {t0 : Tag}
theorem Rep.run (R : Rep A h L H S) : Run A h L S H L H S := ⟨R, .refl⟩
theorem Run.trans (a : Run A h L0 S0 H0 L H S) (b : Run A h L S H L1 H1 S1) : Run A h L0 S0 H0 L1 H1 S1 := ⟨b.rep, a.fr.trans b.fr⟩
theorem Rep.ne_new (R : Rep A h L H S) (hp : H p = none) {t : Tag} (ht : onT S t) : L.ad t ≠ p := ne_of_none (R.co t ht) hp
theorem Rep.alloc (R : Rep A h L H S) (hp : H p = none) : Rep A h L (upd H p o) S :=
  ⟨R.hh, fun t ht => by rw [upd_ne (R.ne_new hp ht)]; exact R.co t ht, R.inj, R.fz.mono (.alloc hp)⟩
theorem upd_dom {a : Addr} (e : upd H p o a = none) : H a = none := by
  by_cases z : a = p
  · rw [z, upd_same] at e; cases e
  · rw [upd_ne z] at e; exact e
theorem Fr.alloc (hp : H p = none) : Fr L S H L S (upd H p o) :=
  ⟨fun a u e _ => by rw [upd_ne (ne_of_none e hp)]; exact e, fun t ht => .inl ⟨t, ht, rfl⟩, fun _ e => upd_dom e, .alloc hp⟩
theorem Run.alloc (g : Run A h L0 S0 H0 L H S) (hp : H p = none) : Run A h L0 S0 H0 L (upd H p o) S := ⟨g.rep.alloc hp, g.fr.trans (.alloc hp)⟩
theorem Rep.other (R : Rep A h L H S) {u : HO} (e : H p = some u) (f : Free u) (hp : ∀ t, onT S t → L.ad t ≠ p) : Rep A h L (upd H p o) S :=
  ⟨R.hh, fun t ht => by rw [upd_ne (hp t ht)]; exact R.co t ht, R.inj, R.fz.mono (.upd e f)⟩
theorem Rep.set (R : Rep A h L H S) (t0 : Tag) (h0 : onT S t0) (had : L'.ad = L.ad) (hon : ∀ t, onT S' t → onT S t) (same : ∀ t, onT S' t → t ≠ t0 → cont A L' S' t = cont A L S t) (new : cont A L' S' t0 = o)
    (fz : ∀ H', Mono H H' → Fzs H' L' S') : Rep A h L' (upd H (L.ad t0) o) S' where
  hh := by rw [had]; exact R.hh
  co := fun t ht => by
    rw [had]
    by_cases z : t = t0
    · subst z; rw [upd_same, new]
    · rw [upd_ne (fun q => z (R.inj t t0 (hon t ht) h0 q)), R.co t (hon t ht), same t ht z]
  inj := fun t t' a b e => by rw [had] at e; exact R.inj t t' (hon t a) (hon t' b) e
  fz := fz _ (.upd (R.co t0 h0) (cont_free t0))
theorem Fr.set (R : Rep A h L H S) (h0 : onT S t0) (had : L'.ad = L.ad) (hon : ∀ t, onT S' t → onT S t) : Fr L S H L' S' (upd H (L.ad t0) o) :=
  ⟨fun a u e ha => by rw [upd_ne (fun z => ha t0 h0 z.symm)]; exact e, fun t ht => .inl ⟨t, hon t ht, by rw [had]⟩, fun _ e => upd_dom e, .upd (R.co t0 h0) (cont_free t0)⟩
theorem Run.set (g : Run A h L0 S0 H0 L H S) (t0 : Tag) (h0 : onT S t0) (had : L'.ad = L.ad) (hon : ∀ t, onT S' t → onT S t) (same : ∀ t, onT S' t → t ≠ t0 → cont A L' S' t = cont A L S t) (new : cont A L' S' t0 = o)
    (fz : ∀ H', Mono H H' → Fzs H' L' S') : Run A h L0 S0 H0 L' (upd H (L.ad t0) o) S' := ⟨g.rep.set t0 h0 had hon same new fz, g.fr.trans (.set g.rep h0 had hon)⟩
theorem Run.setH (g : Run A h L0 S0 H0 L H S) (had : L'.ad = L.ad) (hon : ∀ t, onT S' t → onT S t) (same : ∀ t, onT S' t → t ≠ .host → cont A L' S' t = cont A L S t) (new : cont A L' S' .host = o)
    (fz : ∀ H', Mono H H' → Fzs H' L' S') : Run A h L0 S0 H0 L' (upd H h o) S' := by
  have := g.set .host trivial had hon same new fz
  rw [g.rep.hh] at this
  exact this
structure Nw (H0 : Hp) (L : Lay) (S : SS) (x : Addr) : Prop where
  none : H0 x = none
  ne : ∀ t, onT S t → L.ad t ≠ x
theorem Run.nw (g : Run A h L0 S0 H0 L H S) (hx : H x = none) : Nw H0 L S x := ⟨g.fr.dom x hx, fun t ht => g.rep.ne_new hx ht⟩
theorem Run.host (g : Run A h L0 S0 H0 L H S) : H h = some (cont A L S .host) := by
  have e := g.rep.co .host trivial
  rw [g.rep.hh] at e
  exact e
theorem Rep.host (R : Rep A h L H S) : H h = some (cont A L S .host) := R.run.host
end
theorem Fz.rd {H : Hp} {a : Addr} {xs : List Int} (h : Fz H a xs) : Rd H a (.lst (xs.map V.int)) := .inr h
theorem Fz.sq {K : PySem.W.Frag} {H : Hp} {a : Addr} {xs : List Int} (h : Fz H a xs) : SqL K H a (xs.map V.int) := .inl (.inr h)
end My
namespace My
open PySem PySem.Spec PyProof.Rows L2
section
variable {K : PySem.W.Frag} {mg : Str → Option Value} {A : Adr} {h : Addr} {L0 L : Lay} {S0 S : SS} {H0 H : Hp} {Q : VK} {N : Hp → Prop} {σ : L2.St} {tr : TA} {sp : Sp} {E : XK}
theorem hg_me (T : Txt K mg A) (g : Run A h L0 S0 H0 L H S) (q : Q (.int S.me) H) : kFld K "me" (.ref h) H Q := rd_kFld g.host T.cl_Host T.na_Host_me (fHost_me _) q
theorem hg_n (T : Txt K mg A) (g : Run A h L0 S0 H0 L H S) (q : Q (.int S.n) H) : kFld K "n" (.ref h) H Q := rd_kFld g.host T.cl_Host T.na_Host_n (fHost_n _) q
theorem hg_active (T : Txt K mg A) (g : Run A h L0 S0 H0 L H S) (q : Q (.bl S.active) H) : kFld K "active" (.ref h) H Q := rd_kFld g.host T.cl_Host T.na_Host_active (fHost_active _) q
theorem hg_state (T : Txt K mg A) (g : Run A h L0 S0 H0 L H S) (q : Q (.ref L.st) H) : kFld K "state" (.ref h) H Q := rd_kFld g.host T.cl_Host T.na_Host_state (fHost_state _) q
theorem hg_outgoing (T : Txt K mg A) (g : Run A h L0 S0 H0 L H S) (q : Q (.ref (L.ad .out)) H) : kFld K "outgoing" (.ref h) H Q := rd_kFld g.host T.cl_Host T.na_Host_outgoing (fHost_outgoing _) q
theorem hg_works (T : Txt K mg A) (g : Run A h L0 S0 H0 L H S) (q : Q (.ref (L.ad .works)) H) : kFld K "works" (.ref h) H Q := rd_kFld g.host T.cl_Host T.na_Host_works (fHost_works _) q
theorem hg_balance (T : Txt K mg A) (g : Run A h L0 S0 H0 L H S) (q : Q (.int (S.sum % 4294967296)) H) : kFld K "balance" (.ref h) H Q := rd_kFld g.host T.cl_Host T.na_Host_balance (fHost_balance _) q
theorem hg_black (T : Txt K mg A) (g : Run A h L0 S0 H0 L H S) (q : Q (.bl S.black) H) : kFld K "black" (.ref h) H Q := rd_kFld g.host T.cl_Host T.na_Host_black (fHost_black _) q
theorem hg_watching (T : Txt K mg A) (g : Run A h L0 S0 H0 L H S) (q : Q (.bl S.watches) H) : kFld K "watching" (.ref h) H Q := rd_kFld g.host T.cl_Host T.na_Host_watching (fHost_watching _) q
theorem hg_token (T : Txt K mg A) (g : Run A h L0 S0 H0 L H S) (q : Q (tokV L S) H) : kFld K "token" (.ref h) H Q := rd_kFld g.host T.cl_Host T.na_Host_token (fHost_token _) q
theorem hg_found (T : Txt K mg A) (g : Run A h L0 S0 H0 L H S) (q : Q (.bl S.found) H) : kFld K "found" (.ref h) H Q := rd_kFld g.host T.cl_Host T.na_Host_found (fHost_found _) q
theorem hg_cut_number (T : Txt K mg A) (g : Run A h L0 S0 H0 L H S) (q : Q (.int S.num) H) : kFld K "cut_number" (.ref h) H Q := rd_kFld g.host T.cl_Host T.na_Host_cut_number (fHost_cut_number _) q
theorem hg_records (T : Txt K mg A) (g : Run A h L0 S0 H0 L H S) (q : Q (.ref (L.ad .records)) H) : kFld K "records" (.ref h) H Q := rd_kFld g.host T.cl_Host T.na_Host_records (fHost_records _) q
theorem hg_recordings (T : Txt K mg A) (g : Run A h L0 S0 H0 L H S) (q : Q (.ref (L.ad .recordings)) H) : kFld K "recordings" (.ref h) H Q := rd_kFld g.host T.cl_Host T.na_Host_recordings (fHost_recordings _) q
theorem hg_waits (T : Txt K mg A) (g : Run A h L0 S0 H0 L H S) (q : Q (.ref (L.ad .waits)) H) : kFld K "waits" (.ref h) H Q := rd_kFld g.host T.cl_Host T.na_Host_waits (fHost_waits _) q
theorem hg_owes (T : Txt K mg A) (g : Run A h L0 S0 H0 L H S) (q : Q (.ref (L.ad .owes)) H) : kFld K "owes" (.ref h) H Q := rd_kFld g.host T.cl_Host T.na_Host_owes (fHost_owes _) q
theorem hg_suspect_number (T : Txt K mg A) (g : Run A h L0 S0 H0 L H S) (q : Q (.int S.guess) H) : kFld K "suspect_number" (.ref h) H Q := rd_kFld g.host T.cl_Host T.na_Host_suspect_number (fHost_suspect_number _) q
theorem hg_counted (T : Txt K mg A) (g : Run A h L0 S0 H0 L H S) (q : Q (.ref (L.ad .counted)) H) : kFld K "counted" (.ref h) H Q := rd_kFld g.host T.cl_Host T.na_Host_counted (fHost_counted _) q
theorem hg_locked (T : Txt K mg A) (g : Run A h L0 S0 H0 L H S) (q : Q (.bl S.locked) H) : kFld K "locked" (.ref h) H Q := rd_kFld g.host T.cl_Host T.na_Host_locked (fHost_locked _) q
theorem hp_active {v : Bool} (T : Txt K mg A) (g : Run A h L0 S0 H0 L H S) (q : ∀ H', Run A h L0 S0 H0 L H' { S with active := v } → N H') : kPut K "active" (.bl v) (.ref h) H N := by
  refine rd_kPut g.host T.cl_Host T.na_Host_active (Nat.le_of_ble_eq_true rfl) ?_
  rw [fHost_put_active]
  refine q _ ?_
  exact g.setH rfl (fun t h => by cases t <;> exact h) (fun t _ ne => by cases t <;> first | rfl | exact absurd rfl ne) rfl (fun H' m => { (g.rep.fz.mono m) with })
theorem hp_black {v : Bool} (T : Txt K mg A) (g : Run A h L0 S0 H0 L H S) (q : ∀ H', Run A h L0 S0 H0 L H' { S with black := v } → N H') : kPut K "black" (.bl v) (.ref h) H N := by
  refine rd_kPut g.host T.cl_Host T.na_Host_black (Nat.le_of_ble_eq_true rfl) ?_
  rw [fHost_put_black]
  refine q _ ?_
  exact g.setH rfl (fun t h => by cases t <;> exact h) (fun t _ ne => by cases t <;> first | rfl | exact absurd rfl ne) rfl (fun H' m => { (g.rep.fz.mono m) with })
theorem hp_watching {v : Bool} (T : Txt K mg A) (g : Run A h L0 S0 H0 L H S) (q : ∀ H', Run A h L0 S0 H0 L H' { S with watches := v } → N H') : kPut K "watching" (.bl v) (.ref h) H N := by
  refine rd_kPut g.host T.cl_Host T.na_Host_watching (Nat.le_of_ble_eq_true rfl) ?_
  rw [fHost_put_watching]
  refine q _ ?_
  exact g.setH rfl (fun t h => by cases t <;> exact h) (fun t _ ne => by cases t <;> first | rfl | exact absurd rfl ne) rfl (fun H' m => { (g.rep.fz.mono m) with })
theorem hp_found {v : Bool} (T : Txt K mg A) (g : Run A h L0 S0 H0 L H S) (q : ∀ H', Run A h L0 S0 H0 L H' { S with found := v } → N H') : kPut K "found" (.bl v) (.ref h) H N := by
  refine rd_kPut g.host T.cl_Host T.na_Host_found (Nat.le_of_ble_eq_true rfl) ?_
  rw [fHost_put_found]
  refine q _ ?_
  exact g.setH rfl (fun t h => by cases t <;> exact h) (fun t _ ne => by cases t <;> first | rfl | exact absurd rfl ne) rfl (fun H' m => { (g.rep.fz.mono m) with })
theorem hp_locked {v : Bool} (T : Txt K mg A) (g : Run A h L0 S0 H0 L H S) (q : ∀ H', Run A h L0 S0 H0 L H' { S with locked := v } → N H') : kPut K "locked" (.bl v) (.ref h) H N := by
  refine rd_kPut g.host T.cl_Host T.na_Host_locked (Nat.le_of_ble_eq_true rfl) ?_
  rw [fHost_put_locked]
  refine q _ ?_
  exact g.setH rfl (fun t h => by cases t <;> exact h) (fun t _ ne => by cases t <;> first | rfl | exact absurd rfl ne) rfl (fun H' m => { (g.rep.fz.mono m) with })
theorem hp_cut_number {v : Int} {k : Nat} (T : Txt K mg A) (g : Run A h L0 S0 H0 L H S) (hv : v = (k : Int)) (q : ∀ H', Run A h L0 S0 H0 L H' { S with num := k } → N H') : kPut K "cut_number" (.int v) (.ref h) H N := by
  subst hv
  refine rd_kPut g.host T.cl_Host T.na_Host_cut_number (Nat.le_of_ble_eq_true rfl) ?_
  rw [fHost_put_cut_number]
  refine q _ ?_
  exact g.setH rfl (fun t h => by cases t <;> exact h) (fun t _ ne => by cases t <;> first | rfl | exact absurd rfl ne) rfl (fun H' m => { (g.rep.fz.mono m) with })
theorem hp_suspect_number {v : Int} {k : Nat} (T : Txt K mg A) (g : Run A h L0 S0 H0 L H S) (hv : v = (k : Int)) (q : ∀ H', Run A h L0 S0 H0 L H' { S with guess := k } → N H') : kPut K "suspect_number" (.int v) (.ref h) H N := by
  subst hv
  refine rd_kPut g.host T.cl_Host T.na_Host_suspect_number (Nat.le_of_ble_eq_true rfl) ?_
  rw [fHost_put_suspect_number]
  refine q _ ?_
  exact g.setH rfl (fun t h => by cases t <;> exact h) (fun t _ ne => by cases t <;> first | rfl | exact absurd rfl ne) rfl (fun H' m => { (g.rep.fz.mono m) with })
theorem hp_balance {v z : Int} (T : Txt K mg A) (g : Run A h L0 S0 H0 L H S) (hv : v = z % 4294967296) (q : ∀ H', Run A h L0 S0 H0 L H' { S with sum := z } → N H') : kPut K "balance" (.int v) (.ref h) H N := by
  subst hv
  refine rd_kPut g.host T.cl_Host T.na_Host_balance (Nat.le_of_ble_eq_true rfl) ?_
  rw [fHost_put_balance]
  refine q _ ?_
  exact g.setH rfl (fun t h => by cases t <;> exact h) (fun t _ ne => by cases t <;> first | rfl | exact absurd rfl ne) rfl (fun H' m => { (g.rep.fz.mono m) with })
theorem hp_state {b : Addr} {bs : List Nat} (T : Txt K mg A) (g : Run A h L0 S0 H0 L H S) (hb : Fz H b (byL bs)) (q : ∀ H', Run A h L0 S0 H0 { L with st := b } H' { S with state := bs } → N H') : kPut K "state" (.ref b) (.ref h) H N := by
  refine rd_kPut g.host T.cl_Host T.na_Host_state (Nat.le_of_ble_eq_true rfl) ?_
  rw [fHost_put_state]
  refine q _ ?_
  exact g.setH rfl (fun t h => by cases t <;> exact h) (fun t _ ne => by cases t <;> first | rfl | exact absurd rfl ne) rfl (fun H' m => { (g.rep.fz.mono m) with st := hb.mono m })
theorem mc_Host_begin (g : Run A h L0 S0 H0 L H S) (q : tr σ H fun vs H2 => sp (.ref h :: vs) H2 Q E) : kMeth A.c_Host "begin" sp E tr σ (.ref h) H Q := rd_kMeth g.host (nm_Host_begin _) q
theorem mc_Host_is_busy (g : Run A h L0 S0 H0 L H S) (q : tr σ H fun vs H2 => sp (.ref h :: vs) H2 Q E) : kMeth A.c_Host "is_busy" sp E tr σ (.ref h) H Q := rd_kMeth g.host (nm_Host_is_busy _) q
theorem mc_Host_is_other (g : Run A h L0 S0 H0 L H S) (q : tr σ H fun vs H2 => sp (.ref h :: vs) H2 Q E) : kMeth A.c_Host "is_other" sp E tr σ (.ref h) H Q := rd_kMeth g.host (nm_Host_is_other _) q
theorem mc_Host_send (g : Run A h L0 S0 H0 L H S) (q : tr σ H fun vs H2 => sp (.ref h :: vs) H2 Q E) : kMeth A.c_Host "send" sp E tr σ (.ref h) H Q := rd_kMeth g.host (nm_Host_send _) q
theorem mc_Host_send_to_all (g : Run A h L0 S0 H0 L H S) (q : tr σ H fun vs H2 => sp (.ref h :: vs) H2 Q E) : kMeth A.c_Host "send_to_all" sp E tr σ (.ref h) H Q := rd_kMeth g.host (nm_Host_send_to_all _) q
theorem mc_Host_send_work (g : Run A h L0 S0 H0 L H S) (q : tr σ H fun vs H2 => sp (.ref h :: vs) H2 Q E) : kMeth A.c_Host "send_work" sp E tr σ (.ref h) H Q := rd_kMeth g.host (nm_Host_send_work _) q
theorem mc_Host_work_comes (g : Run A h L0 S0 H0 L H S) (q : tr σ H fun vs H2 => sp (.ref h :: vs) H2 Q E) : kMeth A.c_Host "work_comes" sp E tr σ (.ref h) H Q := rd_kMeth g.host (nm_Host_work_comes _) q
theorem mc_Host_become_idle (g : Run A h L0 S0 H0 L H S) (q : tr σ H fun vs H2 => sp (.ref h :: vs) H2 Q E) : kMeth A.c_Host "become_idle" sp E tr σ (.ref h) H Q := rd_kMeth g.host (nm_Host_become_idle _) q
theorem mc_Host_watch (g : Run A h L0 S0 H0 L H S) (q : tr σ H fun vs H2 => sp (.ref h :: vs) H2 Q E) : kMeth A.c_Host "watch" sp E tr σ (.ref h) H Q := rd_kMeth g.host (nm_Host_watch _) q
theorem mc_Host_token_comes (g : Run A h L0 S0 H0 L H S) (q : tr σ H fun vs H2 => sp (.ref h :: vs) H2 Q E) : kMeth A.c_Host "token_comes" sp E tr σ (.ref h) H Q := rd_kMeth g.host (nm_Host_token_comes _) q
theorem mc_Host_pass_token (g : Run A h L0 S0 H0 L H S) (q : tr σ H fun vs H2 => sp (.ref h :: vs) H2 Q E) : kMeth A.c_Host "pass_token" sp E tr σ (.ref h) H Q := rd_kMeth g.host (nm_Host_pass_token _) q
theorem mc_Host_last_cut_is_whole (g : Run A h L0 S0 H0 L H S) (q : tr σ H fun vs H2 => sp (.ref h :: vs) H2 Q E) : kMeth A.c_Host "last_cut_is_whole" sp E tr σ (.ref h) H Q := rd_kMeth g.host (nm_Host_last_cut_is_whole _) q
theorem mc_Host_begin_cut (g : Run A h L0 S0 H0 L H S) (q : tr σ H fun vs H2 => sp (.ref h :: vs) H2 Q E) : kMeth A.c_Host "begin_cut" sp E tr σ (.ref h) H Q := rd_kMeth g.host (nm_Host_begin_cut _) q
theorem mc_Host_begin_recording (g : Run A h L0 S0 H0 L H S) (q : tr σ H fun vs H2 => sp (.ref h :: vs) H2 Q E) : kMeth A.c_Host "begin_recording" sp E tr σ (.ref h) H Q := rd_kMeth g.host (nm_Host_begin_recording _) q
theorem mc_Host_marker_comes (g : Run A h L0 S0 H0 L H S) (q : tr σ H fun vs H2 => sp (.ref h :: vs) H2 Q E) : kMeth A.c_Host "marker_comes" sp E tr σ (.ref h) H Q := rd_kMeth g.host (nm_Host_marker_comes _) q
theorem mc_Host_end_recording_if_done (g : Run A h L0 S0 H0 L H S) (q : tr σ H fun vs H2 => sp (.ref h :: vs) H2 Q E) : kMeth A.c_Host "end_recording_if_done" sp E tr σ (.ref h) H Q := rd_kMeth g.host (nm_Host_end_recording_if_done _) q
theorem mc_Host_record_comes (g : Run A h L0 S0 H0 L H S) (q : tr σ H fun vs H2 => sp (.ref h :: vs) H2 Q E) : kMeth A.c_Host "record_comes" sp E tr σ (.ref h) H Q := rd_kMeth g.host (nm_Host_record_comes _) q
theorem mc_Host_cut_bytes (g : Run A h L0 S0 H0 L H S) (q : tr σ H fun vs H2 => sp (.ref h :: vs) H2 Q E) : kMeth A.c_Host "cut_bytes" sp E tr σ (.ref h) H Q := rd_kMeth g.host (nm_Host_cut_bytes _) q
theorem mc_Host_is_blocked (g : Run A h L0 S0 H0 L H S) (q : tr σ H fun vs H2 => sp (.ref h :: vs) H2 Q E) : kMeth A.c_Host "is_blocked" sp E tr σ (.ref h) H Q := rd_kMeth g.host (nm_Host_is_blocked _) q
theorem mc_Host_want (g : Run A h L0 S0 H0 L H S) (q : tr σ H fun vs H2 => sp (.ref h :: vs) H2 Q E) : kMeth A.c_Host "want" sp E tr σ (.ref h) H Q := rd_kMeth g.host (nm_Host_want _) q
theorem mc_Host_want_comes (g : Run A h L0 S0 H0 L H S) (q : tr σ H fun vs H2 => sp (.ref h :: vs) H2 Q E) : kMeth A.c_Host "want_comes" sp E tr σ (.ref h) H Q := rd_kMeth g.host (nm_Host_want_comes _) q
theorem mc_Host_grant (g : Run A h L0 S0 H0 L H S) (q : tr σ H fun vs H2 => sp (.ref h :: vs) H2 Q E) : kMeth A.c_Host "grant" sp E tr σ (.ref h) H Q := rd_kMeth g.host (nm_Host_grant _) q
theorem mc_Host_grant_comes (g : Run A h L0 S0 H0 L H S) (q : tr σ H fun vs H2 => sp (.ref h :: vs) H2 Q E) : kMeth A.c_Host "grant_comes" sp E tr σ (.ref h) H Q := rd_kMeth g.host (nm_Host_grant_comes _) q
theorem mc_Host_suspect (g : Run A h L0 S0 H0 L H S) (q : tr σ H fun vs H2 => sp (.ref h :: vs) H2 Q E) : kMeth A.c_Host "suspect" sp E tr σ (.ref h) H Q := rd_kMeth g.host (nm_Host_suspect _) q
theorem mc_Host_send_probe (g : Run A h L0 S0 H0 L H S) (q : tr σ H fun vs H2 => sp (.ref h :: vs) H2 Q E) : kMeth A.c_Host "send_probe" sp E tr σ (.ref h) H Q := rd_kMeth g.host (nm_Host_send_probe _) q
theorem mc_Host_probe_comes (g : Run A h L0 S0 H0 L H S) (q : tr σ H fun vs H2 => sp (.ref h :: vs) H2 Q E) : kMeth A.c_Host "probe_comes" sp E tr σ (.ref h) H Q := rd_kMeth g.host (nm_Host_probe_comes _) q
end
end My
namespace My
open PySem PySem.Spec PyProof.Rows L2
def Ext (H H' : Hp) : Prop := ∀ a o, H a = some o → H' a = some o
theorem Ext.refl {H : Hp} : Ext H H := fun _ _ h => h
theorem Ext.trans {H H1 H2 : Hp} (a : Ext H H1) (b : Ext H1 H2) : Ext H H2 := fun x o h => b x o (a x o h)
theorem Ext.alloc {H : Hp} {p : Addr} {o : HO} (h : H p = none) : Ext H (upd H p o) := fun a u e => by rw [upd_ne (ne_of_none e h)]; exact e
theorem Ext.mono {H H' : Hp} (e : Ext H H') : Mono H H' := ⟨fun a o u h => e a _ h, fun a xs h => e a _ h⟩
theorem Ext.none {H H' : Hp} (e : Ext H H') {a : Addr} (n : H' a = none) : H a = none := by
  cases q : H a with
  | none => rfl
  | some o => rw [e a o q] at n; cases n
section
variable {A : Adr} {h : Addr} {L0 L : Lay} {S0 S : SS} {H0 H H' : Hp}
theorem Rep.ext (R : Rep A h L H S) (e : Ext H H') : Rep A h L H' S := ⟨R.hh, fun t ht => e _ _ (R.co t ht), R.inj, R.fz.mono e.mono⟩
theorem Fr.ext (e : Ext H H') : Fr L S H L S H' := ⟨fun a o q _ => e a o q, fun t ht => .inl ⟨t, ht, rfl⟩, fun a n => e.none n, e.mono⟩
theorem Run.ext (g : Run A h L0 S0 H0 L H S) (e : Ext H H') : Run A h L0 S0 H0 L H' S := ⟨g.rep.ext e, g.fr.trans (.ext e)⟩
end
theorem map_len {xs : List Int} : (xs.map V.int).length = xs.length := List.length_map _
theorem ints_len (bs : List Nat) : (byL bs).length = bs.length := List.length_map _
theorem line_big : 100000 ≤ sizeLine := by unfold sizeLine; decide
theorem ints_get {bs : List Nat} {n x : Nat} (h : bs[n]? = some x) : ((byL bs).map V.int)[n]? = some (V.int (x : Int)) := by
  unfold byL Sa77Neutral.ints
  rw [List.getElem?_map, List.getElem?_map, h]; rfl
def rLen (K : PySem.W.Frag) : List V → Hp → VK → Prop := fun xs H Q => ∃ p ys, xs = [.ref p] ∧ (SqL K H p ys ∨ SqT K H p ys) ∧ Q (.int ys.length) H
theorem call_lenR {X : Cx} : CallR X (.builtin "len") (rLen X.K) := call_len_seq
def rLenD : List V → Hp → VK → Prop := fun xs H Q => ∃ a kvs, xs = [V.ref a] ∧ H a = some (.dK kvs) ∧ Q (.int kvs.length) H
theorem call_lenDR {X : Cx} : CallR X (.builtin "len") rLenD := call_lenD
def rListOf (K : PySem.W.Frag) : List V → Hp → VK → Prop := fun xs H Q => ∃ p ys, xs = [.ref p] ∧ (SqL K H p ys ∨ SqT K H p ys) ∧ ∀ l, H l = none → Q (.ref l) (upd H l (.lst ys))
theorem call_listR {X : Cx} : CallR X (.type "list") (rListOf X.K) := call_list_of
def rIsN : R2 := fun x y H Q => y = .non ∧ Q (.bl (decide (x = .non))) H
theorem op_isNR {X : Cx} : OpR X (compareOp .Is) rIsN := op_isN
def rNotN : R2 := fun x y H Q => y = .non ∧ Q (.bl (!decide (x = .non))) H
theorem op_notNR {X : Cx} : OpR X (compareOp .IsNot) rNotN := op_notN
section
variable {K : PySem.W.Frag} {mg : Str → Option Value} {A : Adr} {h : Addr} {L0 L : Lay} {S0 S : SS} {H0 H : Hp} {Q : VK} {p b : Addr} {xs : List V} {bs : List Nat} {v : V} {n x : Nat} {z : Int}
theorem rd_kFrzN (h : ∀ od, Q (.ref p) (upd H p (.frz od (.lst xs)))) : kFrz (.ref p) (upd H p (.lst xs)) Q := rd_kFrz upd_same trivial fun od => by rw [upd_upd]; exact h od
theorem rd_isN (q : Q (.bl (decide (v = .non))) H) : rIsN v .non H Q := ⟨rfl, q⟩
theorem rd_notN (q : Q (.bl (!decide (v = .non))) H) : rNotN v .non H Q := ⟨rfl, q⟩
theorem rd_lenB (hb : Fz H b (byL bs)) (q : Q (.int bs.length) H) : rLen K [.ref b] H Q := ⟨b, _, rfl, .inl hb.sq, by rw [map_len, ints_len]; exact q⟩
theorem rd_lenL (hb : H b = some (.lst xs)) (q : Q (.int xs.length) H) : rLen K [.ref b] H Q := ⟨b, _, rfl, .inl (SqL.of hb), q⟩
theorem pd_len {α β : Type} {R : α → β → Prop} {xs : List α} {ys : List β} (r : Paired R xs ys) : xs.length = ys.length := Paired.length r
theorem Run.vo (g : Run A h L0 S0 H0 L H S) : L.vo.length = S.out.length := by have := pd_len g.rep.fz.out; rw [List.length_map] at this; exact this
theorem Run.vw (g : Run A h L0 S0 H0 L H S) : L.vw.length = S.inbox.length := by have := pd_len g.rep.fz.works; rw [List.length_map] at this; exact this
theorem rd_lenOut (g : Run A h L0 S0 H0 L H S) (q : Q (.int S.out.length) H) : rLen K [.ref (L.ad .out)] H Q := ⟨_, _, rfl, .inl (SqL.of (g.rep.co .out trivial)), by rw [g.vo]; exact q⟩
theorem rd_lenWorks (g : Run A h L0 S0 H0 L H S) (q : Q (.int S.inbox.length) H) : rLen K [.ref (L.ad .works)] H Q := ⟨_, _, rfl, .inl (SqL.of (g.rep.co .works trivial)), by rw [g.vw]; exact q⟩
theorem rd_lenRecords (g : Run A h L0 S0 H0 L H S) (q : Q (.int S.parts.length) H) : rLenD [.ref (L.ad .records)] H Q := ⟨_, _, rfl, g.rep.co .records trivial, by rw [pd_len g.rep.fz.parts]; exact q⟩
theorem rd_IxB (hb : Fz H b (byL bs)) (hz : z = (n : Nat)) (hx : bs[n]? = some x) (q : Q (.int x) H) : rIxL K (.ref b) (.int z) H Q := by
  subst hz; exact rd_IxL hb.sq (ints_get hx) q
theorem bl_get {n k : Nat} {l : List Nat} (h : k < n) : ((blB n l).map V.bl)[k]? = some (.bl (l.contains k)) := by rw [List.getElem?_map, blB_get l h]; rfl
theorem rd_IxWaits (g : Run A h L0 S0 H0 L H S) (hz : z = (n : Nat)) (hn : n < S.n) (q : Q (.bl (S.wants.contains n)) H) : rIxL K (.ref (L.ad .waits)) (.int z) H Q := by
  subst hz; exact rd_IxL (SqL.of (g.rep.co .waits trivial)) (bl_get hn) q
theorem rd_IxOwes (g : Run A h L0 S0 H0 L H S) (hz : z = (n : Nat)) (hn : n < S.n) (q : Q (.bl (S.owes.contains n)) H) : rIxL K (.ref (L.ad .owes)) (.int z) H Q := by
  subst hz; exact rd_IxL (SqL.of (g.rep.co .owes trivial)) (bl_get hn) q
theorem rd_anyWaits (g : Run A h L0 S0 H0 L H S) (hw : ∀ k ∈ S.wants, k < S.n) (q : Q (.bl (S.wants != [])) H) : rAny K [.ref (L.ad .waits)] H Q := ⟨_, _, rfl, SqL.of (g.rep.co .waits trivial), by rw [blB_any hw]; exact q⟩
theorem ixN_nat {n k : Nat} (h : k < n) : ixN n (k : Int) = some k := by
  unfold ixN; rw [if_pos (by omega), if_pos (by omega), Int.toNat_natCast]
theorem rd_setWaits {N : Hp → Prop} {y : Bool} {l : List Nat} (g : Run A h L0 S0 H0 L H S) (hz : z = (n : Nat)) (hn : n < S.n) (hl : blB S.n l = (blB S.n S.wants).set n y) (q : ∀ H', Run A h L0 S0 H0 L H' { S with wants := l } → N H') :
    rSetL (.ref (L.ad .waits)) (.int z) (.bl y) H N := by
  subst hz
  refine ⟨_, _, _, n, rfl, rfl, g.rep.co .waits trivial, by rw [List.length_map, blB_len]; exact ixN_nat hn, q _ ?_⟩
  exact g.set .waits trivial rfl (fun t h => by cases t <;> exact h) (fun t _ ne => by cases t <;> first | rfl | exact absurd rfl ne) (by show HO.lst ((blB S.n l).map V.bl) = _; rw [hl, List.map_set]) (fun H' m => { (g.rep.fz.mono m) with })
theorem rd_setOwes {N : Hp → Prop} {y : Bool} {l : List Nat} (g : Run A h L0 S0 H0 L H S) (hz : z = (n : Nat)) (hn : n < S.n) (hl : blB S.n l = (blB S.n S.owes).set n y) (q : ∀ H', Run A h L0 S0 H0 L H' { S with owes := l } → N H') :
    rSetL (.ref (L.ad .owes)) (.int z) (.bl y) H N := by
  subst hz
  refine ⟨_, _, _, n, rfl, rfl, g.rep.co .owes trivial, by rw [List.length_map, blB_len]; exact ixN_nat hn, q _ ?_⟩
  exact g.set .owes trivial rfl (fun t h => by cases t <;> exact h) (fun t _ ne => by cases t <;> first | rfl | exact absurd rfl ne) (by show HO.lst ((blB S.n l).map V.bl) = _; rw [hl, List.map_set]) (fun H' m => { (g.rep.fz.mono m) with })
theorem Run.send (g : Run A h L0 S0 H0 L H S) {m : Sa77.Msg} {to : Nat} (hp : H p = none) (hb : Fz H b (byL m.bytes)) :
    Run A h L0 S0 H0 { L with vo := L.vo ++ [.ref p] } (upd (upd H p (.tup [.int to, .ref b])) (L.ad .out) (.lst (L.vo ++ [.ref p]))) (S.put to m) := by
  have g1 := g.alloc (o := .tup [.int to, .ref b]) hp
  refine g1.set .out trivial rfl (fun t h => by cases t <;> exact h) (fun t _ ne => by cases t <;> first | rfl | exact absurd rfl ne) rfl (fun H' mo => ?_)
  refine { (g1.rep.fz.mono mo) with out := ?_ }
  show Prs H' (L.vo ++ [.ref p]) ((S.out ++ [(to, m)]).map outB)
  rw [List.map_append]
  exact pd_snoc ⟨p, b, rfl, mo.tup _ _ upd_same, (hb.mono (.alloc hp)).mono mo⟩ (g1.rep.fz.out.mono mo)
theorem Run.take_in (g : Run A h L0 S0 H0 L H S) {bs : List Nat} {j : Nat} (hp : H p = none) (hb : Fz H b (byL bs)) :
    Run A h L0 S0 H0 { L with vw := L.vw ++ [.ref p] } (upd (upd H p (.tup [.int j, .ref b])) (L.ad .works) (.lst (L.vw ++ [.ref p]))) { S with inbox := S.inbox ++ [(j, bs)] } := by
  have g1 := g.alloc (o := .tup [.int j, .ref b]) hp
  refine g1.set .works trivial rfl (fun t h => by cases t <;> exact h) (fun t _ ne => by cases t <;> first | rfl | exact absurd rfl ne) rfl (fun H' mo => ?_)
  refine { (g1.rep.fz.mono mo) with works := ?_ }
  show Prs H' (L.vw ++ [.ref p]) ((S.inbox ++ [(j, bs)]).map inB)
  rw [List.map_append]
  exact pd_snoc ⟨p, b, rfl, mo.tup _ _ upd_same, (hb.mono (.alloc hp)).mono mo⟩ (g1.rep.fz.works.mono mo)
end
def kRng (vs : List V) (H : Hp) (R : It → Hp → Prop) : Prop := ∃ j : Int, vs = [.int j] ∧ -(2 ^ 62) ≤ j ∧ j < 2 ^ 62 ∧ R (Itr 0 j.toNat) H
section
variable {K : PySem.W.Frag} {mg : Str → Option Value} {A : Adr} {h : Addr} {L0 L : Lay} {S0 S : SS} {H0 H : Hp} {Q : VK} {σ : L2.St} {D : Ends} {tr : TA} {wi : TI} {g : TG} {tb : TS} {r : V → List V → Hp → VK → Prop}
theorem rd_for (q : wi σ H fun J H1 => ∃ W : Nat → Nat → L2.St → Hp → Prop, (∃ m, W 0 m σ H1) ∧ ∀ i m σ H, W i m σ H →
  (J.stop i H ∧ D.nx σ H) ∨ (J.go i H ∧ ∃ N : L2.St → Hp → Prop, (∀ σ' H', N σ' H' → ∃ m', m' < m ∧ W (i + 1) m' σ' H') ∧ ∀ x H', J.yld i H x H' → g x σ H' fun σ2 H2 => tb { D with nx := N, ct := N, bk := D.nx } σ2 H2)) : tFor wi g tb D σ H := q
theorem rd_rng {R : It → Hp → Prop} (q : tr σ H fun vs H1 => kRng vs H1 R) : iRng1 tr σ H R := q
theorem rd_kRng {R : It → Hp → Prop} {n : Nat} (hn : n ≤ 16) (q : R (Itr 0 n) H) : kRng [.int n] H R := ⟨n, rfl, by omega, by omega, by rw [Int.toNat_natCast]; exact q⟩
theorem kb_out (g : Run A h L0 S0 H0 L H S) (q : tr σ H fun ys H2 => r (.ref (L.ad .out)) ys H2 Q) : kBM K "list" r tr σ (.ref (L.ad .out)) H Q := rd_kBM (SqL.of (g.rep.co .out trivial)) q
theorem kb_works (g : Run A h L0 S0 H0 L H S) (q : tr σ H fun ys H2 => r (.ref (L.ad .works)) ys H2 Q) : kBM K "list" r tr σ (.ref (L.ad .works)) H Q := rd_kBM (SqL.of (g.rep.co .works trivial)) q
end
theorem rd_gsub {to ti : TE} {t : TSet} {v : V} {σ : L2.St} {H : Hp} {N : L2.St → Hp → Prop} (q : to σ H fun o H1 => ti σ H1 fun i H2 => t o i v H2 fun H3 => N σ H3) : gSub to ti t v σ H N := q
theorem rd_orPure {tb : TE} {σ : L2.St} {H : Hp} {Q : VK} {x y : Bool} (hb : ∀ Q' : VK, Q' (.bl y) H → tb σ H Q') (q : Q (.bl (x || y)) H) : kOrV tb σ (.bl x) H Q := by
  cases x with
  | true => exact ⟨true, rfl, by rw [if_pos rfl]; exact q⟩
  | false => exact ⟨false, rfl, by rw [if_neg Bool.false_ne_true]; exact hb _ q⟩
def setTok (f : Tag → Addr) (x : Addr) : Tag → Addr
  | .tok => x
  | .host => f .host
  | .out => f .out
  | .works => f .works
  | .records => f .records
  | .recordings => f .recordings
  | .waits => f .waits
  | .owes => f .owes
  | .counted => f .counted
  | .rcd w => f (.rcd w)
  | .rway w => f (.rway w)
  | .rwrk w => f (.rwrk w)
theorem setTok_ne (f : Tag → Addr) (x : Addr) {t : Tag} (h : t ≠ .tok) : setTok f x t = f t := by
  cases t <;> first | rfl | exact absurd rfl h
section
variable {K : PySem.W.Frag} {mg : Str → Option Value} {A : Adr} {h : Addr} {L0 L : Lay} {S0 S : SS} {H0 H : Hp} {Q : VK} {N : Hp → Prop} {x dx : Addr} {c : Bool} {z : Int}
theorem hp_token_drop (T : Txt K mg A) (g : Run A h L0 S0 H0 L H S) (ht : S.token = some (c, z)) (q : ∀ H', Run A h L0 S0 H0 L H' { S with token := none } → H' (L.ad .tok) = some (.ins A.c_Token L.tdx (fToken { black_ := c, total_ := z % 4294967296 })) → N H') : kPut K "token" .non (.ref h) H N := by
  have on : onT S .tok := by show S.token ≠ none; rw [ht]; exact fun z => nomatch z
  have e := g.rep.co .tok on
  have e2 : cont A L S .tok = .ins A.c_Token L.tdx (fToken { black_ := c, total_ := z % 4294967296 }) := by show tokC A L S.token = _; rw [ht]; rfl
  rw [e2] at e
  have ne : L.ad .tok ≠ h := by
    rw [← g.rep.hh]
    exact fun q => nomatch g.rep.inj .tok .host on trivial q
  refine rd_kPut g.host T.cl_Host T.na_Host_token (Nat.le_of_ble_eq_true rfl) ?_
  rw [fHost_put_token]
  refine q _ ?_ (by rw [upd_ne ne]; exact e)
  exact g.setH rfl (fun t h => by cases t <;> first | exact h | exact absurd rfl h) (fun t h ne => by cases t <;> first | rfl | exact absurd rfl ne | exact absurd rfl h) rfl (fun H' m => { (g.rep.fz.mono m) with })
theorem hp_token_new (T : Txt K mg A) (g : Run A h L0 S0 H0 L H S) (hx : H x = none) (hd : H dx = none) (ne : dx ≠ x)
    (q : ∀ L' H', Run A h L0 S0 H0 L' H' { S with token := some (c, z) } → N H') :
    kPut K "token" (.ref x) (.ref h) (upd (upd H dx (.own x)) x (.ins A.c_Token dx (fToken { black_ := c, total_ := z % 4294967296 }))) N := by
  have hx1 : upd H dx (.own x) x = none := by rw [upd_ne (fun z => ne z.symm)]; exact hx
  have nx := g.nw hx
  have g1 := (g.alloc (o := .own x) hd).alloc (o := .ins A.c_Token dx (fToken { black_ := c, total_ := z % 4294967296 })) hx1
  have hn : x ≠ h := fun q => nx.ne .host trivial (by rw [g.rep.hh]; exact q.symm)
  refine rd_kPut g1.host T.cl_Host T.na_Host_token (Nat.le_of_ble_eq_true rfl) ?_
  rw [fHost_put_token]
  refine q { L with ad := setTok L.ad x, tdx := dx } _ ⟨⟨g.rep.hh, fun t ht => ?_, fun t t' ht ht' e => ?_, ?_⟩, ?_⟩
  · by_cases e : t = .tok
    · subst e
      show upd _ h _ x = _
      rw [upd_ne hn, upd_same]
      rfl
    · show upd _ h _ (setTok L.ad x t) = _
      rw [setTok_ne L.ad x e]
      have on : onT S t := by cases t <;> first | exact ht | exact absurd rfl e
      by_cases e2 : t = .host
      · subst e2
        rw [g.rep.hh, upd_same]
        rfl
      · have n2 : L.ad t ≠ h := by
          rw [← g.rep.hh]
          exact fun q => e2 (g.rep.inj t .host on trivial q)
        rw [upd_ne n2, g1.rep.co t on]
        cases t <;> first | rfl | exact absurd rfl e | exact absurd rfl e2
  · by_cases a : t = .tok
    · subst a
      by_cases b : t' = .tok
      · exact b.symm
      · have on : onT S t' := by cases t' <;> first | exact ht' | exact absurd rfl b
        have e : x = setTok L.ad x t' := e
        rw [setTok_ne _ _ b] at e
        exact absurd e.symm (nx.ne t' on)
    · have on : onT S t := by cases t <;> first | exact ht | exact absurd rfl a
      have e : setTok L.ad x t = setTok L.ad x t' := e
      rw [setTok_ne _ _ a] at e
      by_cases b : t' = .tok
      · subst b
        exact absurd e (nx.ne t on)
      · have on' : onT S t' := by cases t' <;> first | exact ht' | exact absurd rfl b
        rw [setTok_ne _ _ b] at e
        exact g.rep.inj t t' on on' e
  · exact { (g1.rep.fz.mono (.upd g1.host (cont_free .host))) with }
  · refine g.fr.trans ⟨fun a u e ha => ?_, fun t ht => ?_, fun _ e => upd_dom (upd_dom (upd_dom e)), (Mono.alloc hd).trans ((Mono.alloc hx1).trans (.upd g1.host (cont_free .host)))⟩
    · rw [upd_ne (fun z => ha .host trivial (by rw [g.rep.hh]; exact z.symm)), upd_ne (ne_of_none e hx), upd_ne (ne_of_none e hd)]; exact e
    · by_cases e : t = .tok
      · subst e
        exact .inr hx
      · have on : onT S t := by cases t <;> first | exact ht | exact absurd rfl e
        exact .inl ⟨t, on, (setTok_ne L.ad x e).symm⟩
end
theorem rd_tt {B C : Prop} (h : B) : if true = true then B else C := by rw [if_pos rfl]; exact h
theorem rd_ff {B C : Prop} (h : C) : if false = true then B else C := by rw [if_neg Bool.false_ne_true]; exact h
theorem rd_iteBit {b : Bool} {σ : L2.St} {H : Hp} {Q : VK} (q : Q (.int (Sa77.bit b : Nat)) H) : if b = true then tC (.int 1) σ H Q else tC (.int 0) σ H Q := by
  cases b with
  | true => rw [if_pos rfl]; exact q
  | false => rw [if_neg Bool.false_ne_true]; exact q
theorem eqI {Q : VK} {H : Hp} {a b : Int} (k : Q (.int a) H) (e : a = b) : Q (.int b) H := e ▸ k
theorem eqB {Q : VK} {H : Hp} {a b : Bool} (k : Q (.bl a) H) (e : a = b) : Q (.bl b) H := e ▸ k
theorem eqV {Q : VK} {H : Hp} {a b : V} (k : Q a H) (e : a = b) : Q b H := e ▸ k
theorem tokV_non {L : Lay} {S : SS} : decide (tokV L S = .non) = S.token.isNone := by
  unfold tokV
  cases S.token <;> rfl
end My
namespace My
open PySem PySem.Spec PyProof.Rows L2
section
variable {K : PySem.W.Frag} {mg : Str → Option Value} {A : Adr} {h : Addr} {L0 L L' : Lay} {S0 S S' : SS} {H0 H H2 : Hp} {Q : VK} {N : Hp → Prop} {x dx D p l : Addr} {w v : Nat} {o : HO}
theorem Run.make (g : Run A h L0 S0 H0 L H S) (e2 : Ext H H2) (t1 : Tag) (on1 : onT S t1) (hh : L'.ad .host = L.ad .host) (old : ∀ t, onT S' t → (onT S t ∧ L'.ad t = L.ad t) ∨ H (L'.ad t) = none)
    (co : ∀ t, onT S' t → upd H2 (L.ad t1) o (L'.ad t) = some (cont A L' S' t)) (inj : ∀ t t', onT S' t → onT S' t' → H (L'.ad t) = none → H (L'.ad t') = none → L'.ad t = L'.ad t' → t = t')
    (fz : ∀ H', Mono H2 H' → Fzs H' L' S') : Run A h L0 S0 H0 L' (upd H2 (L.ad t1) o) S' := by
  have g2 := g.ext e2
  have m := Mono.upd (o := o) (g2.rep.co t1 on1) (cont_free t1)
  refine ⟨⟨hh.trans g.rep.hh, co, fun t t' ht ht' e => ?_, fz _ m⟩, g.fr.trans ⟨fun a u q ha => ?_, fun t ht => ?_, fun a q => e2.none (upd_dom q), e2.mono.trans m⟩⟩
  · rcases old t ht with ⟨a1, a2⟩ | a1
    · rcases old t' ht' with ⟨b1, b2⟩ | b1
      · rw [a2, b2] at e; exact g.rep.inj t t' a1 b1 e
      · rw [← e, a2, g.rep.co t a1] at b1; cases b1
    · rcases old t' ht' with ⟨b1, b2⟩ | b1
      · rw [e, b2, g.rep.co t' b1] at a1; cases a1
      · exact inj t t' ht ht' a1 b1 e
  · rw [upd_ne (fun z => ha t1 on1 z.symm)]; exact e2 a u q
  · rcases old t ht with ⟨a1, a2⟩ | a1
    · exact .inl ⟨t, a1, a2.symm⟩
    · exact .inr a1
theorem val_recs (f : Nat → V) (rs : List Sa77.Rec) (w : Nat) : valV (rs.map fun r => ((Sum.inl (r.who : Int) : Key), f r.who)) (.inl (w : Int)) = (rs.find? fun r => r.who == w).map fun r => f r.who := by
  induction rs with
  | nil => rfl
  | cons a t ih =>
    rw [List.map_cons, List.find?_cons]
    by_cases e : a.who = w
    · rw [valV_pos (p := ((Sum.inl (a.who : Int) : Key), f a.who)) (by rw [e]), beq_iff_eq.mpr e]; rfl
    · rw [valV_neg (p := ((Sum.inl (a.who : Int) : Key), f a.who)) (by intro q; apply e; have := Sum.inl.inj q; omega), ih, beq_eq_false_iff_ne.mpr e]
theorem rec_val (S : SS) (f : Nat → V) (w : Nat) : valV (S.recs.map fun r => ((Sum.inl (r.who : Int) : Key), f r.who)) (.inl (w : Int)) = (recAt S w).map fun _ => f w := by
  rw [val_recs]
  show (recAt S w).map _ = _
  cases e : recAt S w with
  | none => rfl
  | some r => show some (f r.who) = some (f w); rw [recAt_who e]
theorem rec_dget (g : Run A h L0 S0 H0 L H S) (w : Nat) : DGet H (L.ad .recordings) (.int (w : Int)) ((recAt S w).map fun _ => .ref (L.ad (.rcd w))) := by
  have := DGet.k (k := .inl (w : Int)) (g.rep.co .recordings trivial)
  rw [rec_val S (fun w => .ref (L.ad (.rcd w))) w] at this
  exact this
theorem Run.rcd (g : Run A h L0 S0 H0 L H S) {r : Sa77.Rec} (e : recAt S w = some r) : H (L.ad (.rcd w)) = some (.ins A.c_Recording (L.rdx w) (fRecording (recF L r))) := by
  have := g.rep.co (.rcd w) (by show recAt S w ≠ none; rw [e]; exact fun z => nomatch z)
  rw [this]; show some (rcdC A L w (recAt S w)) = _; rw [e]; rfl
theorem Run.rway (g : Run A h L0 S0 H0 L H S) {r : Sa77.Rec} (e : recAt S w = some r) : H (L.ad (.rway w)) = some (.lst ((blB S.n r.ways).map V.bl)) := by
  have := g.rep.co (.rway w) (by show recAt S w ≠ none; rw [e]; exact fun z => nomatch z)
  rw [this]; show some (rwayC S.n (recAt S w)) = _; rw [e]; rfl
theorem Run.rwrk (g : Run A h L0 S0 H0 L H S) {r : Sa77.Rec} (e : recAt S w = some r) : H (L.ad (.rwrk w)) = some (.lst (L.rvs w)) :=
  g.rep.co (.rwrk w) (by show recAt S w ≠ none; rw [e]; exact fun z => nomatch z)
theorem onR {r : Sa77.Rec} (e : recAt S w = some r) : onT S (.rcd w) ∧ onT S (.rway w) ∧ onT S (.rwrk w) := by
  have : recAt S w ≠ none := by rw [e]; exact fun z => nomatch z
  exact ⟨this, this, this⟩
theorem on_set {f : Sa77.Rec → Sa77.Rec} (hf : ∀ q, (f q).who = q.who) (t : Tag) (ht : onT (setR S w f) t) : onT S t := by
  have key : ∀ v, recAt (setR S w f) v ≠ none → recAt S v ≠ none := fun v hv q => hv (by
    rw [recAt_set S w v f hf, q]; split <;> rfl)
  cases t <;> first | exact ht | exact key _ ht
theorem cont_set {f : Sa77.Rec → Sa77.Rec} (hf : ∀ q, (f q).who = q.who) (hst : ∀ q, (f q).state = q.state) {t : Tag} (h1 : t ≠ .rcd w) (h2 : t ≠ .rway w) : cont A L (setR S w f) t = cont A L S t := by
  cases t with
  | recordings => exact congrArg HO.dK (setR_whos S w f hf fun v => ((Sum.inl (v : Int) : Key), V.ref (L.ad (.rcd v))))
  | rcd v =>
    show rcdC A L v (recAt (setR S w f) v) = rcdC A L v (recAt S v)
    rw [recAt_set S w v f hf, if_neg (fun e => h1 (by rw [e]))]
  | rway v =>
    show rwayC S.n (recAt (setR S w f) v) = rwayC S.n (recAt S v)
    rw [recAt_set S w v f hf, if_neg (fun e => h2 (by rw [e]))]
  | _ => rfl
theorem fz_set {f : Sa77.Rec → Sa77.Rec} (hf : ∀ q, (f q).who = q.who) (hst : ∀ q, (f q).state = q.state) (z : Fzs H L S) (hg : ∀ r, recAt S w = some r → Prs H (L'.rvs w) ((f r).got.map inB)) (hL : L' = { L with rvs := L'.rvs }) (hv : ∀ v, v ≠ w → L'.rvs v = L.rvs v) : Fzs H L' (setR S w f) := by
  rw [hL]
  refine { z with rst := fun v r e => ?_, rvs := fun v r e => ?_ }
  · rw [recAt_set S w v f hf] at e
    split at e
    · cases q : recAt S v with
      | none => rw [q] at e; cases e
      | some r' => rw [q] at e; cases e; rw [hst]; exact z.rst v r' q
    · exact z.rst v r e
  · rw [recAt_set S w v f hf] at e
    show Prs H (L'.rvs v) _
    split at e
    · next hvw =>
      subst hvw
      cases q : recAt S v with
      | none => rw [q] at e; cases e
      | some r' => rw [q] at e; cases e; exact hg r' q
    · next hvw => rw [hv v hvw]; exact z.rvs v r e
def fWay (j : Nat) (q : Sa77.Rec) : Sa77.Rec := { q with ways := q.ways.filter fun k => k != j }
def fWork (j : Nat) (bs : List Nat) (q : Sa77.Rec) : Sa77.Rec := { q with got := q.got ++ [(j, bs)] }
def fMuch (q : Sa77.Rec) : Sa77.Rec := { q with much := true }
theorem fWay_who (j : Nat) (q : Sa77.Rec) : (fWay j q).who = q.who := rfl
theorem fWay_st (j : Nat) (q : Sa77.Rec) : (fWay j q).state = q.state := rfl
theorem fWork_who (j : Nat) (bs : List Nat) (q : Sa77.Rec) : (fWork j bs q).who = q.who := rfl
theorem fWork_st (j : Nat) (bs : List Nat) (q : Sa77.Rec) : (fWork j bs q).state = q.state := rfl
theorem fMuch_who (q : Sa77.Rec) : (fMuch q).who = q.who := rfl
theorem fMuch_st (q : Sa77.Rec) : (fMuch q).state = q.state := rfl
theorem Run.rec_way (g : Run A h L0 S0 H0 L H S) {r : Sa77.Rec} (e : recAt S w = some r) (j : Nat) :
    Run A h L0 S0 H0 L (upd H (L.ad (.rway w)) (.lst (((blB S.n r.ways).map V.bl).set j (.bl false)))) (setR S w (fWay j)) := by
  refine g.set (.rway w) (onR e).2.1 rfl (on_set (fWay_who j)) (fun t ht ne => ?_) ?_ (fun H' m => fz_set (fWay_who j) (fWay_st j) (g.rep.fz.mono m) (fun r e => (g.rep.fz.rvs w r e).mono m) rfl fun _ _ => rfl)
  · by_cases q : t = .rcd w
    · subst q
      show rcdC A L w (recAt (setR S w (fWay j)) w) = rcdC A L w (recAt S w)
      rw [recAt_set S w w (fWay j) (fWay_who j), if_pos rfl, e]
      rfl
    · exact cont_set (fWay_who j) (fWay_st j) q ne
  · show rwayC S.n (recAt (setR S w (fWay j)) w) = _
    rw [recAt_set S w w (fWay j) (fWay_who j), if_pos rfl, e]
    show HO.lst ((blB S.n (r.ways.filter fun k => k != j)).map V.bl) = _
    rw [blB_del, List.map_set]
theorem Run.rec_work (g : Run A h L0 S0 H0 L H S) {r : Sa77.Rec} (e : recAt S w = some r) {j : Nat} {bs : List Nat} {b : Addr} (hp : H p = none) (hb : Fz H b (byL bs)) :
    Run A h L0 S0 H0 { L with rvs := fun v => if v = w then L.rvs w ++ [.ref p] else L.rvs v } (upd (upd H p (.tup [.int j, .ref b])) (L.ad (.rwrk w)) (.lst (L.rvs w ++ [.ref p]))) (setR S w (fWork j bs)) := by
  have g1 := g.alloc (o := .tup [.int j, .ref b]) hp
  refine g1.set (.rwrk w) (onR e).2.2 rfl (on_set (fWork_who j bs)) (fun t ht ne => ?_) ?_ (fun H' m => fz_set (L := L) (fWork_who j bs) (fWork_st j bs) (g1.rep.fz.mono m) (fun r' e' => ?_) rfl fun v hv => if_neg hv)
  · cases t with
    | rwrk v =>
      show HO.lst (if v = w then _ else _) = _
      rw [if_neg (fun q => ne (by rw [q]))]; rfl
    | rcd v =>
      show rcdC A _ v (recAt (setR S w (fWork j bs)) v) = rcdC A L v (recAt S v)
      rw [recAt_set S w v (fWork j bs) (fWork_who j bs)]
      by_cases q : v = w
      · subst q; rw [if_pos rfl, e]; rfl
      · rw [if_neg q]; rfl
    | rway v =>
      show rwayC S.n (recAt (setR S w (fWork j bs)) v) = rwayC S.n (recAt S v)
      rw [recAt_set S w v (fWork j bs) (fWork_who j bs)]
      by_cases q : v = w
      · subst q; rw [if_pos rfl, e]; rfl
      · rw [if_neg q]
    | recordings => exact congrArg HO.dK (setR_whos S w (fWork j bs) (fWork_who j bs) fun v => ((Sum.inl (v : Int) : Key), V.ref (L.ad (.rcd v))))
    | _ => rfl
  · show HO.lst (if w = w then _ else _) = _
    rw [if_pos rfl]
  · show Prs H' (if w = w then _ else _) ((r'.got ++ [(j, bs)]).map inB)
    rw [if_pos rfl, List.map_append]
    exact pd_snoc ⟨p, b, rfl, m.tup _ _ upd_same, (hb.mono (.alloc hp)).mono m⟩ ((g1.rep.fz.rvs w r' e').mono m)
theorem Run.rec_much (g : Run A h L0 S0 H0 L H S) {r : Sa77.Rec} (e : recAt S w = some r) :
    Run A h L0 S0 H0 L (upd H (L.ad (.rcd w)) (.ins A.c_Recording (L.rdx w) (fRecording { recF L r with too_much_ := true }))) (setR S w fMuch) := by
  refine g.set (.rcd w) (onR e).1 rfl (on_set fMuch_who) (fun t ht ne => ?_) ?_ (fun H' m => fz_set fMuch_who fMuch_st (g.rep.fz.mono m) (fun r e => (g.rep.fz.rvs w r e).mono m) rfl fun _ _ => rfl)
  · by_cases q : t = .rway w
    · subst q
      show rwayC S.n (recAt (setR S w fMuch) w) = rwayC S.n (recAt S w)
      rw [recAt_set S w w fMuch fMuch_who, if_pos rfl, e]
      rfl
    · exact cont_set fMuch_who fMuch_st ne q
  · show rcdC A L w (recAt (setR S w fMuch) w) = _
    rw [recAt_set S w w fMuch fMuch_who, if_pos rfl, e]
    rfl
theorem Run.rec_drop (g : Run A h L0 S0 H0 L H S) (w : Nat) :
    Run A h L0 S0 H0 L (upd H (L.ad .recordings) (.dK (dropK (S.recs.map fun r => ((Sum.inl (r.who : Int) : Key), V.ref (L.ad (.rcd r.who)))) (.inl (w : Int))))) { S with recs := S.recs.filter fun q => q.who != w } := by
  have key : ∀ v, recAt { S with recs := S.recs.filter fun q => q.who != w } v ≠ none → recAt S v ≠ none ∧ v ≠ w := fun v hv => by
    rw [recAt_drop] at hv
    split at hv
    · exact absurd rfl hv
    · next q => exact ⟨hv, q⟩
  refine g.set .recordings trivial rfl (fun t ht => by cases t <;> first | exact ht | exact (key _ ht).1) (fun t ht ne => ?_) ?_ (fun H' m => ?_)
  · cases t with
    | recordings => exact absurd rfl ne
    | rcd v => show rcdC A L v (recAt _ v) = rcdC A L v (recAt S v); rw [recAt_drop, if_neg (key v ht).2]
    | rway v => show rwayC S.n (recAt _ v) = rwayC S.n (recAt S v); rw [recAt_drop, if_neg (key v ht).2]
    | _ => rfl
  · show HO.dK ((S.recs.filter _).map _) = HO.dK (dropK _ _)
    unfold dropK
    rw [List.filter_map]
    congr 2
    apply List.filter_congr
    intro q _
    simp only [Function.comp]
    by_cases e : q.who = w
    · simp [e]
    · have : ¬ ((q.who : Int) = (w : Int)) := by omega
      simp [e, this]
  · have z := g.rep.fz.mono m
    refine { z with rst := fun v r e => ?_, rvs := fun v r e => ?_ }
    · rw [recAt_drop] at e
      split at e
      · cases e
      · exact z.rst v r e
    · rw [recAt_drop] at e
      split at e
      · cases e
      · exact z.rvs v r e
def setRec (f : Tag → Addr) (w : Nat) (x D p : Addr) : Tag → Addr
  | .rcd v => if v = w then x else f (.rcd v)
  | .rway v => if v = w then D else f (.rway v)
  | .rwrk v => if v = w then p else f (.rwrk v)
  | .tok => f .tok
  | .host => f .host
  | .out => f .out
  | .works => f .works
  | .records => f .records
  | .recordings => f .recordings
  | .waits => f .waits
  | .owes => f .owes
  | .counted => f .counted
def layRec (L : Lay) (w : Nat) (x dx D p l : Addr) : Lay := { L with ad := setRec L.ad w x D p, rdx := fun v => if v = w then dx else L.rdx v, rst := fun v => if v = w then l else L.rst v, rvs := fun v => if v = w then [] else L.rvs v }
theorem Run.rec_new (g : Run A h L0 S0 H0 L H S) {num : Nat} {ways : List Nat} (hn : recAt S w = none) (e2 : Ext H H2) (nx : H x = none) (nD : H D = none) (np : H p = none)
    (hx : H2 x = some (.ins A.c_Recording dx (fRecording { number_ := num, state_ := l, ways_ := D, works_ := p, too_much_ := false }))) (hD : H2 D = some (.lst ((blB S.n ways).map V.bl))) (hp : H2 p = some (.lst [])) (hl : Fz H2 l (byL S.state)) (ne : D ≠ p) :
    Run A h L0 S0 H0 (layRec L w x dx D p l) (upd H2 (L.ad .recordings) (.dK (putK (S.recs.map fun r => ((Sum.inl (r.who : Int) : Key), V.ref (L.ad (.rcd r.who)))) (.inl (w : Int)) (.ref x)))) { S with recs := S.recs ++ [⟨w, num, S.state, ways, [], false⟩] } := by
  have ra : ∀ v, recAt { S with recs := S.recs ++ [⟨w, num, S.state, ways, [], false⟩] } v = if v = w then some ⟨w, num, S.state, ways, [], false⟩ else recAt S v := fun v => recAt_snoc rfl hn v
  have nr : ∀ {a : Addr}, H a = none → a ≠ L.ad .recordings := fun {a} q z => g.rep.ne_new q (t := .recordings) trivial z.symm
  have g2 := g.ext e2
  have old : ∀ t, onT { S with recs := S.recs ++ [⟨w, num, S.state, ways, [], false⟩] } t → (onT S t ∧ setRec L.ad w x D p t = L.ad t) ∨ H (setRec L.ad w x D p t) = none := fun t ht => by
    cases t with
    | rcd v =>
      by_cases q : v = w
      · refine .inr ?_; show H (if v = w then x else _) = none; rw [if_pos q]; exact nx
      · have ht : recAt _ v ≠ none := ht
        rw [ra, if_neg q] at ht
        exact .inl ⟨ht, if_neg q⟩
    | rway v =>
      by_cases q : v = w
      · refine .inr ?_; show H (if v = w then D else _) = none; rw [if_pos q]; exact nD
      · have ht : recAt _ v ≠ none := ht
        rw [ra, if_neg q] at ht
        exact .inl ⟨ht, if_neg q⟩
    | rwrk v =>
      by_cases q : v = w
      · refine .inr ?_; show H (if v = w then p else _) = none; rw [if_pos q]; exact np
      · have ht : recAt _ v ≠ none := ht
        rw [ra, if_neg q] at ht
        exact .inl ⟨ht, if_neg q⟩
    | _ => exact .inl ⟨ht, rfl⟩
  have xD : x ≠ D := ne_of hx hD (fun z => nomatch z)
  have xp : x ≠ p := ne_of hx hp (fun z => nomatch z)
  refine g.make e2 .recordings trivial rfl old (fun t ht => ?_) (fun t t' ht ht' a b e => ?_) (fun H' m => ?_)
  · have keep : ∀ t, onT S t → t ≠ .recordings → upd H2 (L.ad .recordings) (.dK (putK (S.recs.map fun r => ((Sum.inl (r.who : Int) : Key), V.ref (L.ad (.rcd r.who)))) (.inl (w : Int)) (.ref x))) (L.ad t) = some (cont A L S t) := fun t on q => by
      rw [upd_ne (fun z => q (g.rep.inj t .recordings on trivial z))]; exact g2.rep.co t on
    cases t with
    | recordings =>
      show upd _ _ _ (L.ad .recordings) = _
      rw [upd_same]
      rw [putK_new _ (by rw [rec_val S (fun w => .ref (L.ad (.rcd w))) w, hn]; rfl)]
      show _ = some (HO.dK ((S.recs ++ [_]).map _))
      rw [List.map_append]
      congr 3
      · apply List.map_congr_left
        intro r hr
        show _ = (_, V.ref (if r.who = w then x else _))
        rw [if_neg (recAt_none hn r hr)]
      · show _ = [(_, V.ref (if w = w then x else _))]
        rw [if_pos rfl]
    | rcd v =>
      by_cases q : v = w
      · subst q
        show upd _ _ _ (if v = v then x else _) = some (rcdC A _ v (recAt _ v))
        rw [if_pos rfl, upd_ne (nr nx), hx, ra, if_pos rfl]
        show some (HO.ins A.c_Recording dx _) = some (HO.ins A.c_Recording (if v = v then dx else _) (fRecording { number_ := num, state_ := if v = v then l else _, ways_ := if v = v then D else _, works_ := if v = v then p else _, too_much_ := false }))
        rw [if_pos rfl, if_pos rfl, if_pos rfl, if_pos rfl]
      · have ht : recAt _ v ≠ none := ht
        rw [ra, if_neg q] at ht
        show upd _ _ _ (if v = w then x else _) = some (rcdC A _ v (recAt _ v))
        rw [if_neg q, keep (.rcd v) ht (fun z => nomatch z), ra, if_neg q]
        show some (rcdC A L v (recAt S v)) = _
        cases er : recAt S v with
        | none => exact absurd er ht
        | some r =>
          have ew := recAt_who er
          show some (HO.ins A.c_Recording (L.rdx v) (fRecording { number_ := _, state_ := L.rst r.who, ways_ := L.ad (.rway r.who), works_ := L.ad (.rwrk r.who), too_much_ := _ })) = some (HO.ins A.c_Recording (if v = w then dx else _) (fRecording { number_ := _, state_ := if r.who = w then l else _, ways_ := if r.who = w then D else _, works_ := if r.who = w then p else _, too_much_ := _ }))
          rw [if_neg q, ew, if_neg q, if_neg q, if_neg q]
    | rway v =>
      by_cases q : v = w
      · subst q
        show upd _ _ _ (if v = v then D else _) = some (rwayC S.n (recAt _ v))
        rw [if_pos rfl, upd_ne (nr nD), hD, ra, if_pos rfl]
        rfl
      · have ht : recAt _ v ≠ none := ht
        rw [ra, if_neg q] at ht
        show upd _ _ _ (if v = w then D else _) = some (rwayC S.n (recAt _ v))
        rw [if_neg q, keep (.rway v) ht (fun z => nomatch z), ra, if_neg q]
        rfl
    | rwrk v =>
      by_cases q : v = w
      · subst q
        show upd _ _ _ (if v = v then p else _) = some (HO.lst (if v = v then _ else _))
        rw [if_pos rfl, if_pos rfl, upd_ne (nr np), hp]
      · have ht : recAt _ v ≠ none := ht
        rw [ra, if_neg q] at ht
        show upd _ _ _ (if v = w then p else _) = some (HO.lst (if v = w then _ else _))
        rw [if_neg q, if_neg q, keep (.rwrk v) ht (fun z => nomatch z)]
        rfl
    | tok => exact keep .tok ht (fun z => nomatch z)
    | host => exact keep .host trivial (fun z => nomatch z)
    | out => exact keep .out trivial (fun z => nomatch z)
    | works => exact keep .works trivial (fun z => nomatch z)
    | records => exact keep .records trivial (fun z => nomatch z)
    | waits => exact keep .waits trivial (fun z => nomatch z)
    | owes => exact keep .owes trivial (fun z => nomatch z)
    | counted => exact keep .counted trivial (fun z => nomatch z)
  · have isnew : ∀ t, onT { S with recs := S.recs ++ [⟨w, num, S.state, ways, [], false⟩] } t → H (setRec L.ad w x D p t) = none → (t = .rcd w ∧ setRec L.ad w x D p t = x) ∨ (t = .rway w ∧ setRec L.ad w x D p t = D) ∨ (t = .rwrk w ∧ setRec L.ad w x D p t = p) := fun t ht a => by
      have bad : onT S t → setRec L.ad w x D p t = L.ad t → False := fun on q => by rw [q, g.rep.co t on] at a; cases a
      cases t with
      | rcd v =>
        by_cases q : v = w
        · subst q; exact .inl ⟨rfl, if_pos rfl⟩
        · have ht : recAt _ v ≠ none := ht
          rw [ra, if_neg q] at ht
          exact (bad ht (if_neg q)).elim
      | rway v =>
        by_cases q : v = w
        · subst q; exact .inr (.inl ⟨rfl, if_pos rfl⟩)
        · have ht : recAt _ v ≠ none := ht
          rw [ra, if_neg q] at ht
          exact (bad ht (if_neg q)).elim
      | rwrk v =>
        by_cases q : v = w
        · subst q; exact .inr (.inr ⟨rfl, if_pos rfl⟩)
        · have ht : recAt _ v ≠ none := ht
          rw [ra, if_neg q] at ht
          exact (bad ht (if_neg q)).elim
      | _ => exact (bad ht rfl).elim
    have e : setRec L.ad w x D p t = setRec L.ad w x D p t' := e
    rcases isnew t ht a with ⟨q1, q2⟩ | ⟨q1, q2⟩ | ⟨q1, q2⟩ <;> rcases isnew t' ht' b with ⟨r1, r2⟩ | ⟨r1, r2⟩ | ⟨r1, r2⟩ <;> first
      | exact q1.trans r1.symm
      | (rw [q2, r2] at e; first | exact absurd e xD | exact absurd e xp | exact absurd e ne | exact absurd e.symm xD | exact absurd e.symm xp | exact absurd e.symm ne)
  · have z := g2.rep.fz.mono m
    refine { z with rst := fun v r e => ?_, rvs := fun v r e => ?_ }
    · rw [ra] at e
      show Fz H' (if v = w then l else _) _
      split at e
      · next q => cases e; rw [if_pos q]; exact hl.mono m
      · next q => rw [if_neg q]; exact z.rst v r e
    · rw [ra] at e
      show Prs H' (if v = w then _ else _) _
      split at e
      · next q => cases e; rw [if_pos q]; exact .nil
      · next q => rw [if_neg q]; exact z.rvs v r e
def setRcs (f : Tag → Addr) (x : Addr) : Tag → Addr
  | .records => x
  | .rcd v => f (.rcd v)
  | .rway v => f (.rway v)
  | .rwrk v => f (.rwrk v)
  | .tok => f .tok
  | .host => f .host
  | .out => f .out
  | .works => f .works
  | .recordings => f .recordings
  | .waits => f .waits
  | .owes => f .owes
  | .counted => f .counted
theorem hp_records_new (T : Txt K mg A) (g : Run A h L0 S0 H0 L H S) (hx : H x = none) (q : ∀ L' H', Run A h L0 S0 H0 L' H' { S with parts := [] } → N H') :
    kPut K "records" (.ref x) (.ref h) (upd H x (.dK [])) N := by
  have g1 := g.alloc (o := .dK []) hx
  refine rd_kPut g1.host T.cl_Host T.na_Host_records (Nat.le_of_ble_eq_true rfl) ?_
  rw [fHost_put_records]
  suffices key : Run A h L0 S0 H0 { L with ad := setRcs L.ad x, kr := [] } (upd (upd H x (.dK [])) (L.ad .host) (cont A { L with ad := setRcs L.ad x, kr := [] } { S with parts := [] } .host)) { S with parts := [] } by
    rw [g.rep.hh] at key
    exact q _ _ key
  refine g.make (H2 := upd H x (.dK [])) (Ext.alloc hx) .host trivial rfl (fun t ht => ?_) (fun t ht => ?_) (fun t t' ht ht' a b e => ?_) (fun H' m => ?_)
  · by_cases e : t = .records
    · subst e; exact .inr hx
    · refine .inl ⟨by cases t <;> exact ht, ?_⟩
      cases t <;> first | rfl | exact absurd rfl e
  · have hxh : x ≠ L.ad .host := fun z => g.rep.ne_new hx (t := .host) trivial z.symm
    by_cases e : t = .records
    · subst e
      show upd _ _ _ x = _
      rw [upd_ne hxh, upd_same]; rfl
    · by_cases e2 : t = .host
      · subst e2
        show upd _ _ _ (L.ad .host) = _
        rw [upd_same]
      · have on : onT S t := by cases t <;> exact ht
        have ea : setRcs L.ad x t = L.ad t := by cases t <;> first | rfl | exact absurd rfl e
        show upd _ _ _ (setRcs L.ad x t) = _
        rw [ea, upd_ne (fun z => e2 (g.rep.inj t .host on trivial z)), g1.rep.co t on]
        cases t <;> first | rfl | exact absurd rfl e | exact absurd rfl e2
  · have isn : ∀ t, onT S t → H (setRcs L.ad x t) = none → t = .records := fun t on a => by
      apply Classical.byContradiction
      intro e
      have ea : setRcs L.ad x t = L.ad t := by cases t <;> first | rfl | exact absurd rfl e
      rw [ea, g.rep.co t on] at a; cases a
    rw [isn t (by cases t <;> exact ht) a, isn t' (by cases t' <;> exact ht') b]
  · exact { (g1.rep.fz.mono m) with parts := .nil }
theorem rcs_val {kr : List (Key × V)} {ps : List Sa77.Part} (r : Rcs H kr ps) (w : Nat) : (ps.find? (fun p => p.host == w) = none → valV kr (.inl (w : Int)) = none) ∧ ∀ p, ps.find? (fun p => p.host == w) = some p → ∃ b, valV kr (.inl (w : Int)) = some (.ref b) ∧ Fz H b (byL (Sa77.recordBytes p.much p.state p.got)) := by
  unfold Rcs at r
  induction r with
  | nil => exact ⟨fun _ => rfl, fun p q => by cases q⟩
  | @cons a b l1 l2 q t ih =>
    obtain ⟨e1, c, e2, e3⟩ := q
    rw [List.find?_cons]
    by_cases e : b.host = w
    · rw [beq_iff_eq.mpr e]
      refine ⟨fun z => (by cases z), fun p z => ?_⟩
      cases z
      exact ⟨c, by rw [valV_pos (by rw [e1, e]), e2], e3⟩
    · rw [beq_eq_false_iff_ne.mpr e, valV_neg (by rw [e1]; intro z; apply e; have := Sum.inl.inj z; omega)]
      exact ih
theorem Run.gather (g : Run A h L0 S0 H0 L H S) {p : Sa77.Part} {b : Addr} (hn : S.parts.find? (fun q => q.host == p.host) = none) (hb : Fz H b (byL (Sa77.recordBytes p.much p.state p.got))) :
    Run A h L0 S0 H0 { L with kr := L.kr ++ [(.inl (p.host : Int), .ref b)] } (upd H (L.ad .records) (.dK (putK L.kr (.inl (p.host : Int)) (.ref b)))) { S with parts := S.parts ++ [p] } := by
  rw [putK_new _ ((rcs_val g.rep.fz.parts p.host).1 hn)]
  refine g.set .records trivial rfl (fun t h => by cases t <;> exact h) (fun t _ ne => by cases t <;> first | rfl | exact absurd rfl ne) rfl (fun H' m => ?_)
  exact { (g.rep.fz.mono m) with parts := pd_snoc ⟨rfl, b, rfl, hb.mono m⟩ (g.rep.fz.parts.mono m) }
theorem cnt_put {kc : List (Key × V)} {ps : List (Nat × Nat)} (c : Cnt kc ps) (nd : (ps.map (·.1)).Nodup) (w k : Nat) : Cnt (putK kc (.inl (w : Int)) (.int (k : Int))) ((w, k) :: ps.filter fun p => p.1 != w) := by
  obtain ⟨c1, c2⟩ := c
  refine ⟨?_, fun v => ?_⟩
  · rw [List.length_cons]
    have h1 := c2 w
    unfold putK
    cases q : valV kc (.inl (w : Int)) with
    | none =>
      rw [valV_any, q]
      rw [if_neg (by exact Bool.false_ne_true), List.length_append]
      rw [q] at h1
      have h2 : ps.find? (fun p => p.1 == w) = none := by
        cases e : ps.find? (fun p => p.1 == w) with
        | none => rfl
        | some p => rw [e] at h1; cases h1
      have h3 : ps.filter (fun p => p.1 != w) = ps := by
        rw [List.filter_eq_self]
        intro p hp
        have := List.find?_eq_none.mp h2 p hp
        simpa using this
      rw [h3, c1]; rfl
    | some y =>
      rw [valV_any, q, Option.isSome_some, if_pos rfl, List.length_map, c1]
      rw [q] at h1
      cases e : ps.find? (fun p => p.1 == w) with
      | none => rw [e] at h1; cases h1
      | some p =>
        have hm := List.mem_of_find?_eq_some e
        have hw : p.1 = w := by have := List.find?_some e; simpa using this
        clear h1 c2 q e c1
        induction ps with
        | nil => cases hm
        | cons a t ih =>
          rw [List.map_cons, List.nodup_cons] at nd
          by_cases ea : a.1 = w
          · have h3 : t.filter (fun p => p.1 != w) = t := by
              rw [List.filter_eq_self]
              intro p hp
              have : p.1 ≠ w := fun z => nd.1 (by rw [ea, ← z]; exact List.mem_map.mpr ⟨p, hp, rfl⟩)
              simpa using this
            rw [List.filter_cons, if_neg (by simp [ea]), h3]; rfl
          · rw [List.filter_cons, if_pos (by simp [ea]), List.length_cons, List.length_cons]
            rcases List.mem_cons.mp hm with z | z
            · exact absurd (by rw [← z]; exact hw) ea
            · rw [ih nd.2 z]
  · rw [valV_put, List.find?_cons]
    by_cases e : v = w
    · rw [if_pos (by rw [e])]
      have : ((w, k).1 == v) = true := by simp [e]
      rw [this]; rfl
    · rw [if_neg (by intro z; apply e; have := Sum.inl.inj z; omega)]
      have : ((w, k).1 == v) = false := by simp; exact fun z => e z.symm
      rw [this, c2 v]
      congr 1
      clear c1 c2
      induction ps with
      | nil => rfl
      | cons a t ih =>
        rw [List.filter_cons]
        by_cases ea : a.1 = w
        · have h1 : (a.1 != w) = false := by simp [ea]
          have h2 : (a.1 == v) = false := by simp; exact fun z => e (z.symm.trans ea)
          rw [if_neg (by rw [h1]; exact Bool.false_ne_true), List.find?_cons, h2]
          rw [List.map_cons, List.nodup_cons] at nd
          exact ih nd.2
        · have h1 : (a.1 != w) = true := by simp [ea]
          rw [if_pos h1, List.find?_cons, List.find?_cons]
          rw [List.map_cons, List.nodup_cons] at nd
          rw [ih nd.2]
end
end My
namespace My
open PySem PySem.Spec PyProof.Rows L2
theorem pe_fldK {X : Cx} {K : PySem.W.Frag} {e : Expr} {f : Str} {pos : Pos} {ta : TE} (hK : X.K = K) (he : PE X e ta) (hb : attributeBase e f X.env (eval e X.env) = eval e X.env) : PE X (.Attribute e f pos) (tFld K ta f) := by
  subst hK
  exact pe_fld he hb
def kDPut (v x y : V) (H : Hp) (N : Hp → Prop) : Prop := ∃ a H4, x = .ref a ∧ DPut H a y v H4 ∧ N H4
def kDIn (y x : V) (H : Hp) (Q : VK) : Prop := ∃ a o, x = .ref a ∧ DGet H a y o ∧ Q (.bl o.isSome) H
def kDNotIn (y x : V) (H : Hp) (Q : VK) : Prop := ∃ a o, x = .ref a ∧ DGet H a y o ∧ Q (.bl (!o.isSome)) H
def kDGet (x y : V) (H : Hp) (Q : VK) : Prop := ∃ a v, x = .ref a ∧ DGet H a y (some v) ∧ Q v H
def kDPop (ty : TE) (σ : L2.St) (x : V) (H : Hp) (Q : VK) : Prop := ∃ a, x = .ref a ∧ IsD H a ∧ ty σ H fun y H2 => ∃ kvs k v, H2 a = some (.dK kvs) ∧ y = kV k ∧ valV kvs k = some v ∧ Q v (upd H2 a (.dK (dropK kvs k)))
section
variable {K : PySem.W.Frag} {mg : Str → Option Value} {A : Adr} {h : Addr} {L0 L : Lay} {S0 S : SS} {H0 H : Hp} {Q : VK} {QT : Bool → Hp → Prop} {σ : L2.St} {D : Ends} {tr : TA} {wi : TI} {g : TG} {tb te td ty tv : TE} {vs : List Nat} {tt : TT} {w : Nat} {b : Addr} {xs : List Int} {v : V}
theorem rd_dput (q : tv σ H fun v H1 => td σ H1 fun x H2 => ty σ H2 fun y H3 => kDPut v x y H3 (D.nx σ)) : sDPut td ty tv D σ H := q
theorem rd_din (q : ty σ H fun y H1 => td σ H1 fun x H2 => kDIn y x H2 Q) : tDIn ty td σ H Q := q
theorem rd_dnotin (q : ty σ H fun y H1 => td σ H1 fun x H2 => kDNotIn y x H2 Q) : tDNotIn ty td σ H Q := q
theorem rd_dget (q : td σ H fun x H1 => ty σ H1 fun y H2 => kDGet x y H2 Q) : tDGet td ty σ H Q := q
theorem rd_dpop (q : td σ H fun x H1 => kDPop ty σ x H1 Q) : tDPop1 td ty σ H Q := q
theorem rd_yes (q : QT true H) : tYes σ H QT := q
theorem rd_lc (q : wi σ H fun J H1 => ∀ D, H1 D = none → ∃ W : Nat → Nat → Hp → Prop, (∃ m, W 0 m (upd H1 D (.lst []))) ∧ ∀ i m H, W i m H →
    (J.stop i H ∧ Q (.ref D) H) ∨ (J.go i H ∧ ∃ Nx : Hp → Prop, (∀ H', Nx H' → ∃ m', m' < m ∧ W (i + 1) m' H') ∧ ∀ x H', J.yld i H x H' → g x (wipe σ vs) H' fun σ2 H2 => wipe σ2 vs = wipe σ vs ∧ tt σ2 H2 fun b H3 =>
      if b = true then te σ2 H3 fun y H4 => ∃ acc, H4 D = some (.lst acc) ∧ acc.length < sizeLine ∧ Nx (upd H4 D (.lst (acc ++ [y]))) else Nx H3)) : tLc wi g tt te vs σ H Q := q
theorem rd_listF (hb : Fz H b xs) (q : ∀ l, H l = none → Q (.ref l) (upd H l (.lst (xs.map V.int)))) : rListOf K [.ref b] H Q := ⟨b, _, rfl, .inl hb.sq, q⟩
theorem rc_din (g : Run A h L0 S0 H0 L H S) (q : Q (.bl (recAt S w).isSome) H) : kDIn (.int (w : Int)) (.ref (L.ad .recordings)) H Q := ⟨_, _, rfl, rec_dget g w, by rw [Option.isSome_map]; exact q⟩
theorem rc_dget (g : Run A h L0 S0 H0 L H S) {r : Sa77.Rec} (e : recAt S w = some r) (q : Q (.ref (L.ad (.rcd w))) H) : kDGet (.ref (L.ad .recordings)) (.int (w : Int)) H Q := ⟨_, _, rfl, by have := rec_dget g w; rw [e] at this; exact this, q⟩
theorem rc_dput {N : Hp → Prop} (g : Run A h L0 S0 H0 L H S) (hl : S.recs.length ≤ 16) (q : N (upd H (L.ad .recordings) (.dK (putK (S.recs.map fun r => ((Sum.inl (r.who : Int) : Key), V.ref (L.ad (.rcd r.who)))) (.inl (w : Int)) v)))) : kDPut v (.ref (L.ad .recordings)) (.int (w : Int)) H N :=
  ⟨_, _, rfl, DPut.k (k := .inl (w : Int)) (g.rep.co .recordings trivial) (by rw [List.length_map]; have := line_big; omega), q⟩
theorem rc_dpop (g : Run A h L0 S0 H0 L H S) {r : Sa77.Rec} (e : recAt S w = some r) (q : ty σ H fun y H2 => H2 = H ∧ y = .int (w : Int) ∧ Q (.ref (L.ad (.rcd w))) (upd H (L.ad .recordings) (.dK (dropK (S.recs.map fun r => ((Sum.inl (r.who : Int) : Key), V.ref (L.ad (.rcd r.who)))) (.inl (w : Int))))))
    (mono : ∀ Q1 Q2 : VK, (∀ v H, Q1 v H → Q2 v H) → ty σ H Q1 → ty σ H Q2) : kDPop ty σ (.ref (L.ad .recordings)) H Q := by
  refine ⟨_, rfl, .inl ⟨_, .inl (g.rep.co .recordings trivial)⟩, mono _ _ (fun y H2 ⟨e1, e2, q⟩ => ?_) q⟩
  subst e1 e2
  exact ⟨_, .inl (w : Int), _, g.rep.co .recordings trivial, rfl, by rw [rec_val S (fun w => .ref (L.ad (.rcd w))) w, e]; rfl, q⟩
theorem ct_get (g : Run A h L0 S0 H0 L H S) (w : Nat) : DGet H (L.ad .counted) (.int (w : Int)) ((S.probes.find? fun p => p.1 == w).map fun p => V.int p.2) := by
  have := DGet.k (k := .inl (w : Int)) (g.rep.co .counted trivial)
  rw [show valV L.kc (.inl (w : Int)) = _ from g.rep.fz.cnt.2 w] at this
  exact this
theorem ct_din (g : Run A h L0 S0 H0 L H S) (q : Q (.bl (S.probes.find? fun p => p.1 == w).isSome) H) : kDIn (.int (w : Int)) (.ref (L.ad .counted)) H Q := ⟨_, _, rfl, ct_get g w, by rw [Option.isSome_map]; exact q⟩
theorem ct_dget (g : Run A h L0 S0 H0 L H S) {p : Nat × Nat} (e : S.probes.find? (fun p => p.1 == w) = some p) (q : Q (.int p.2) H) : kDGet (.ref (L.ad .counted)) (.int (w : Int)) H Q := ⟨_, _, rfl, by have := ct_get g w; rw [e] at this; exact this, q⟩
theorem ct_dput {N : Hp → Prop} {k : Nat} (g : Run A h L0 S0 H0 L H S) (nd : (S.probes.map (·.1)).Nodup) (hl : S.probes.length ≤ 16) (q : ∀ L' H', Run A h L0 S0 H0 L' H' { S with probes := (w, k) :: S.probes.filter fun p => p.1 != w } → N H') : kDPut (.int (k : Int)) (.ref (L.ad .counted)) (.int (w : Int)) H N := by
  refine ⟨_, _, rfl, DPut.k (k := .inl (w : Int)) (g.rep.co .counted trivial) (by rw [g.rep.fz.cnt.1]; have := line_big; omega), q { L with kc := putK L.kc (.inl (w : Int)) (.int (k : Int)) } _ ?_⟩
  exact g.set .counted trivial rfl (fun t h => by cases t <;> exact h) (fun t _ ne => by cases t <;> first | rfl | exact absurd rfl ne) rfl (fun H' m => { (g.rep.fz.mono m) with cnt := cnt_put g.rep.fz.cnt nd w k })
theorem rs_notin (g : Run A h L0 S0 H0 L H S) (q : Q (.bl (!(S.parts.any fun p => p.host == w))) H) : kDNotIn (.int (w : Int)) (.ref (L.ad .records)) H Q := by
  have d := DGet.k (k := .inl (w : Int)) (g.rep.co .records trivial)
  obtain ⟨h1, h2⟩ := rcs_val g.rep.fz.parts w
  have e : (S.parts.any fun p => p.host == w) = (S.parts.find? fun p => p.host == w).isSome := by rw [Bool.eq_iff_iff, List.any_eq_true, List.find?_isSome]
  rw [e] at q
  cases f : S.parts.find? (fun p => p.host == w) with
  | none =>
    rw [f] at q
    have d : DGet H (L.ad .records) (.int (w : Int)) (valV L.kr (.inl (w : Int))) := d
    rw [h1 f] at d
    exact ⟨_, _, rfl, d, q⟩
  | some p =>
    rw [f] at q
    obtain ⟨b, h3, _⟩ := h2 p f
    have d : DGet H (L.ad .records) (.int (w : Int)) (valV L.kr (.inl (w : Int))) := d
    rw [h3] at d
    exact ⟨_, _, rfl, d, q⟩
theorem rs_dget (g : Run A h L0 S0 H0 L H S) {p : Sa77.Part} (f : S.parts.find? (fun p => p.host == w) = some p) (q : ∀ b, Fz H b (byL (Sa77.recordBytes p.much p.state p.got)) → Q (.ref b) H) : kDGet (.ref (L.ad .records)) (.int (w : Int)) H Q := by
  have d : DGet H (L.ad .records) (.int (w : Int)) (valV L.kr (.inl (w : Int))) := DGet.k (k := .inl (w : Int)) (g.rep.co .records trivial)
  obtain ⟨b, h3, h4⟩ := (rcs_val g.rep.fz.parts w).2 p f
  rw [h3] at d
  exact ⟨_, _, rfl, d, q b h4⟩
theorem rs_dput {N : Hp → Prop} {p : Sa77.Part} (g : Run A h L0 S0 H0 L H S) (hl : S.parts.length ≤ 16) (hn : S.parts.find? (fun q => q.host == p.host) = none) (hb : Fz H b (byL (Sa77.recordBytes p.much p.state p.got))) (q : ∀ L' H', Run A h L0 S0 H0 L' H' { S with parts := S.parts ++ [p] } → N H') : kDPut (.ref b) (.ref (L.ad .records)) (.int (p.host : Int)) H N :=
  ⟨_, _, rfl, DPut.k (k := .inl (p.host : Int)) (g.rep.co .records trivial) (by rw [pd_len g.rep.fz.parts]; have := line_big; omega), q _ _ (g.gather hn hb)⟩
end
end My
namespace My
open PySem PySem.Spec PyProof.Rows L2
local macro_rules | `(tactic| walk_at "rd1") => `(tactic| first
  | ((with_reducible refine rd_var ?_); refine ⟨_, rfl, ?_⟩)
  | with_reducible refine rd_C ?_
  | with_reducible refine rd_seq ?_
  | with_reducible refine rd_nx ?_
  | with_reducible refine rd_rt ?_
  | with_reducible refine rd_fld ?_
  | with_reducible refine rd_op ?_
  | with_reducible refine rd_I0 ?_
  | with_reducible refine rd_Eq ?_
  | with_reducible refine rd_Ne ?_
  | with_reducible refine rd_test ?_
  | with_reducible refine rd_B ?_
  | with_reducible refine rd_kTest ?_
  | with_reducible refine rd_ifS ?_
  | with_reducible refine rd_drop ?_
  | with_reducible refine rd_ret ?_
  | with_reducible refine rd_retN ?_
  | with_reducible refine rd_put ?_
  | with_reducible refine rd_next ?_
  | with_reducible refine rd_asg ?_
  | with_reducible refine rd_gname ?_
  | with_reducible refine rd_cons ?_
  | with_reducible refine rd_nil ?_
  | with_reducible refine rd_or ?_
  | with_reducible refine rd_and ?_
  | with_reducible refine rd_not ?_
  | with_reducible refine rd_meth ?_
  | with_reducible refine rd_call ?_
  | with_reducible refine rd_make ?_
  | with_reducible refine rd_lst ?_
  | with_reducible refine rd_tup ?_
  | with_reducible refine rd_CB ?_
  | with_reducible refine rd_BM ?_
  | with_reducible refine rd_andV ?_
  | with_reducible refine rd_orV ?_
  | with_reducible refine rd_notV ?_
  | with_reducible refine rd_kAndV ?_
  | with_reducible refine rd_kOrV ?_
  | with_reducible refine rd_kNotV ?_
  | with_reducible refine rd_if ?_
  | with_reducible refine rd_sl ?_
  | with_reducible refine rd_part ?_
  | with_reducible refine rd_kPart ?_
  | with_reducible refine rd_noPart ?_
  | with_reducible refine rd_frz ?_
  | with_reducible refine rd_tt ?_
  | with_reducible refine rd_ff ?_
  | with_reducible refine rd_for ?_
  | with_reducible refine rd_rng ?_
  | with_reducible refine rd_gsub ?_
  | with_reducible refine rd_iteBit ?_
  | with_reducible refine rd_isN ?_
  | with_reducible refine rd_notN ?_
  | with_reducible refine rd_lenB (by assumption) ?_
  | ((with_reducible refine rd_I ?_ ?_); first | decide | exact ⟨by decide, by decide⟩ | exact .inr ⟨by decide, by decide⟩)
  | ((with_reducible refine rd_kLst ?_ ?_); exact Nat.le_of_ble_eq_true rfl; intro p hp)
  | ((with_reducible refine rd_kTup ?_ ?_); exact Nat.le_of_ble_eq_true rfl; intro p hp))
local macro_rules | `(tactic| walk_at "hs1") => `(tactic| first
  | with_reducible refine hg_me (by assumption) (by assumption) ?_
  | with_reducible refine hg_n (by assumption) (by assumption) ?_
  | with_reducible refine hg_active (by assumption) (by assumption) ?_
  | with_reducible refine hg_state (by assumption) (by assumption) ?_
  | with_reducible refine hg_outgoing (by assumption) (by assumption) ?_
  | with_reducible refine hg_works (by assumption) (by assumption) ?_
  | with_reducible refine hg_balance (by assumption) (by assumption) ?_
  | with_reducible refine hg_black (by assumption) (by assumption) ?_
  | with_reducible refine hg_watching (by assumption) (by assumption) ?_
  | with_reducible refine hg_token (by assumption) (by assumption) ?_
  | with_reducible refine hg_found (by assumption) (by assumption) ?_
  | with_reducible refine hg_cut_number (by assumption) (by assumption) ?_
  | with_reducible refine hg_records (by assumption) (by assumption) ?_
  | with_reducible refine hg_recordings (by assumption) (by assumption) ?_
  | with_reducible refine hg_waits (by assumption) (by assumption) ?_
  | with_reducible refine hg_owes (by assumption) (by assumption) ?_
  | with_reducible refine hg_suspect_number (by assumption) (by assumption) ?_
  | with_reducible refine hg_counted (by assumption) (by assumption) ?_
  | with_reducible refine hg_locked (by assumption) (by assumption) ?_
  | ((with_reducible refine hp_active (by assumption) (by assumption) ?_); intro H g)
  | ((with_reducible refine hp_black (by assumption) (by assumption) ?_); intro H g)
  | ((with_reducible refine hp_watching (by assumption) (by assumption) ?_); intro H g)
  | ((with_reducible refine hp_found (by assumption) (by assumption) ?_); intro H g)
  | ((with_reducible refine hp_locked (by assumption) (by assumption) ?_); intro H g)
  | with_reducible refine mc_Host_begin (by assumption) ?_
  | with_reducible refine mc_Host_is_busy (by assumption) ?_
  | with_reducible refine mc_Host_is_other (by assumption) ?_
  | with_reducible refine mc_Host_send (by assumption) ?_
  | with_reducible refine mc_Host_send_to_all (by assumption) ?_
  | with_reducible refine mc_Host_send_work (by assumption) ?_
  | with_reducible refine mc_Host_work_comes (by assumption) ?_
  | with_reducible refine mc_Host_become_idle (by assumption) ?_
  | with_reducible refine mc_Host_watch (by assumption) ?_
  | with_reducible refine mc_Host_token_comes (by assumption) ?_
  | with_reducible refine mc_Host_pass_token (by assumption) ?_
  | with_reducible refine mc_Host_last_cut_is_whole (by assumption) ?_
  | with_reducible refine mc_Host_begin_cut (by assumption) ?_
  | with_reducible refine mc_Host_begin_recording (by assumption) ?_
  | with_reducible refine mc_Host_marker_comes (by assumption) ?_
  | with_reducible refine mc_Host_end_recording_if_done (by assumption) ?_
  | with_reducible refine mc_Host_record_comes (by assumption) ?_
  | with_reducible refine mc_Host_cut_bytes (by assumption) ?_
  | with_reducible refine mc_Host_is_blocked (by assumption) ?_
  | with_reducible refine mc_Host_want (by assumption) ?_
  | with_reducible refine mc_Host_want_comes (by assumption) ?_
  | with_reducible refine mc_Host_grant (by assumption) ?_
  | with_reducible refine mc_Host_grant_comes (by assumption) ?_
  | with_reducible refine mc_Host_suspect (by assumption) ?_
  | with_reducible refine mc_Host_send_probe (by assumption) ?_
  | with_reducible refine mc_Host_probe_comes (by assumption) ?_
  | with_reducible refine kb_out (by assumption) ?_
  | with_reducible refine kb_works (by assumption) ?_
  | with_reducible refine rd_lenOut (by assumption) ?_
  | with_reducible refine rd_lenWorks (by assumption) ?_
  | with_reducible refine rd_lenRecords (by assumption) ?_
  | with_reducible refine rd_anyWaits (by assumption) (by assumption) ?_)
local macro_rules | `(tactic| walk_at "rd2") => `(tactic| first
  | with_reducible refine rd_dput ?_
  | with_reducible refine rd_din ?_
  | with_reducible refine rd_dnotin ?_
  | with_reducible refine rd_dget ?_
  | with_reducible refine rd_dpop ?_
  | with_reducible refine rd_yes ?_
  | with_reducible refine rd_lc ?_
  | with_reducible refine rc_din (by assumption) ?_
  | with_reducible refine ct_din (by assumption) ?_
  | with_reducible refine rs_notin (by assumption) ?_)
local macro_rules | `(tactic| walk_at "rd") => `(tactic| repeat (first | walk_at "rd1" | walk_at "hs1" | walk_at "rd2"))
section
variable {P : Program} {w : World} {K : PySem.W.Frag} {mg : Str → Option Value} {base : Heap} {A : Adr}
def sp_four_bytes (_ : Adr) : Sp := fun vs H Q _ => ∃ z : Int, vs = [.int z] ∧ ∀ p, H p = none → Q (.ref p) (upd H p (.lst [.int (z % 256), .int (z / 256 % 256), .int (z / 65536 % 256), .int (z / 16777216 % 256)]))
theorem ok_four_bytes (T : Txt K mg A) : FnOk P w K mg base CX0 (1) A.f_four_bytes A.d_four_bytes ["number"] (sp_four_bytes A) := by
  refine T.g_four_bytes.fn.ok sc_four_bytes (fun vs H Q E h => ?_) (fun cdv A' outer s H vs Q E hr h => ?_)
  · obtain ⟨z, rfl, _⟩ := h
    rfl
  · obtain ⟨z, rfl, k⟩ := h
    refine ⟨_, (pss_one (ps_ret (pe_lst (pa_cons (pe_op op_mod (pv 0) pe_int) (pa_cons (pe_op op_mod (pe_op op_fdiv (pv 0) pe_int) pe_int) (pa_cons (pe_op op_mod (pe_op op_fdiv (pv 0) pe_int) pe_int) (pa_cons (pe_op op_mod (pe_op op_fdiv (pv 0) pe_int) pe_int) pa_nil))))))), ?_⟩
    try dsimp only [cxOf, Cx.nox, Cx.wish]
    walk_at "rd"
    exact k _ (by assumption)
def NewB (H : Hp) (Q : VK) (xs : List Int) : Prop := ∀ p H', Ext H H' → Fz H' p xs → Q (.ref p) H'
def sp_work_message (_ : Adr) : Sp := fun vs H Q _ => ∃ b bs, vs = [.ref b] ∧ Fz H b (byL bs) ∧ bs.length ≤ 64 ∧ NewB H Q (byL (Sa77.Msg.work bs).bytes)
theorem ok_work_message (T : Txt K mg A) : FnOk P w K mg base CX0 (1) A.f_work_message A.d_work_message ["row"] (sp_work_message A) := by
  refine T.g_work_message.fn.ok sc_work_message (fun vs H Q E h => ?_) (fun cdv A' outer s H vs Q E hr h => ?_)
  · obtain ⟨b, bs, rfl, _⟩ := h
    rfl
  · obtain ⟨b, bs, rfl, hb, hl, k⟩ := h
    refine ⟨_, (pss_one (ps_ret (pe_frz (pe_op op_catR (pe_lst (pa_cons (pe_glob (v := .int (1)) rfl T.k_WORK ⟨_, rfl⟩) pa_nil)) (pv 0))))), ?_⟩
    try dsimp only [cxOf, Cx.nox, Cx.wish]
    walk_at "rd"
    refine rd_cat (.inl upd_same) (hb.mono (.alloc (by assumption))).rd ?_ fun p2 hp2 => ?_
    · rw [map_len, ints_len]; have := line_big; simp only [List.length_cons, List.length_nil]; omega
    refine rd_kFrzN fun od => ?_
    walk_at "rd"
    exact k _ _ ((Ext.alloc (by assumption)).trans (Ext.alloc hp2)) ⟨od, upd_same⟩
def sp_token_message (_ : Adr) : Sp := fun vs H Q _ => ∃ c z, vs = [.bl c, .int (z % 4294967296)] ∧ NewB H Q (byL (Sa77.Msg.token c z).bytes)
theorem ok_token_message (T : Txt K mg A) : FnOk P w K mg base CX0 (2) A.f_token_message A.d_token_message ["black", "total"] (sp_token_message A) := by
  refine T.g_token_message.fn.ok sc_token_message (fun vs H Q E h => ?_) (fun cdv A' outer s H vs Q E hr h => ?_)
  · obtain ⟨c, z, rfl, _⟩ := h
    rfl
  · obtain ⟨c, z, rfl, k⟩ := h
    have e4 := le4z (z := z % 4294967296) (by omega)
    refine ⟨_, (pss_one (ps_ret (pe_frz (pe_op op_catR (pe_lst (pa_cons (pe_glob (v := .int (2)) rfl T.k_TOKEN ⟨_, rfl⟩) (pa_cons (pe_ifExp (pt_val (pv 0)) pe_int pe_int) pa_nil))) (pe_call (ok_four_bytes T) (hr.mono (by decide)) rfl T.g_four_bytes.mg T.g_four_bytes.fn.kp T.g_four_bytes.bd .nil pass0 (pa_cons (pv 1) pa_nil)))))), ?_⟩
    try dsimp only [cxOf, Cx.nox, Cx.wish]
    walk_at "rd"
    refine ⟨_, rfl, fun p2 hp2 => ?_⟩
    refine rd_cat (.inl (by rw [upd_ne (ne_of_none upd_same hp2)]; exact upd_same)) (.inl upd_same) (Nat.le_trans (m := 6) (Nat.le_of_ble_eq_true rfl) (Nat.le_trans (by decide) line_big)) fun p3 hp3 => ?_
    refine rd_kFrzN fun od => ?_
    walk_at "rd"
    refine k _ _ (((Ext.alloc (by assumption)).trans (Ext.alloc hp2)).trans (Ext.alloc hp3)) ⟨od, ?_⟩
    rw [upd_same]
    show _ = some (HO.frz od (.lst (((2 : Int) :: _ :: byL (Sa77.le 4 (z % 2 ^ 32).toNat)).map V.int)))
    rw [show (z % (2 : Int) ^ 32).toNat = (z % 4294967296).toNat from rfl, e4]
    rfl
def sp_marker_message (_ : Adr) : Sp := fun vs H Q _ => ∃ (x k : Nat), vs = [.int x, .int k] ∧ NewB H Q (byL (Sa77.Msg.marker x k).bytes)
theorem ok_marker_message (T : Txt K mg A) : FnOk P w K mg base CX0 (2) A.f_marker_message A.d_marker_message ["who", "number"] (sp_marker_message A) := by
  refine T.g_marker_message.fn.ok sc_marker_message (fun vs H Q E h => ?_) (fun cdv A' outer s H vs Q E hr h => ?_)
  · obtain ⟨c, z, rfl, _⟩ := h
    rfl
  · obtain ⟨x, z, rfl, k⟩ := h
    have e4 := le4 z
    refine ⟨_, (pss_one (ps_ret (pe_frz (pe_op op_catR (pe_lst (pa_cons (pe_glob (v := .int (3)) rfl T.k_MARKER ⟨_, rfl⟩) (pa_cons (pv 0) pa_nil))) (pe_call (ok_four_bytes T) (hr.mono (by decide)) rfl T.g_four_bytes.mg T.g_four_bytes.fn.kp T.g_four_bytes.bd .nil pass0 (pa_cons (pv 1) pa_nil)))))), ?_⟩
    try dsimp only [cxOf, Cx.nox, Cx.wish]
    walk_at "rd"
    refine ⟨_, rfl, fun p2 hp2 => ?_⟩
    refine rd_cat (.inl (by rw [upd_ne (ne_of_none upd_same hp2)]; exact upd_same)) (.inl upd_same) (Nat.le_trans (m := 6) (Nat.le_of_ble_eq_true rfl) (Nat.le_trans (by decide) line_big)) fun p3 hp3 => ?_
    refine rd_kFrzN fun od => ?_
    walk_at "rd"
    refine k _ _ (((Ext.alloc (by assumption)).trans (Ext.alloc hp2)).trans (Ext.alloc hp3)) ⟨od, ?_⟩
    rw [upd_same]
    show _ = some (HO.frz od (.lst (((3 : Int) :: _ :: byL (Sa77.le 4 z)).map V.int)))
    rw [e4]
    rfl
def sp_probe_message (_ : Adr) : Sp := fun vs H Q _ => ∃ (x k : Nat), vs = [.int x, .int k] ∧ NewB H Q (byL (Sa77.Msg.probe x k).bytes)
theorem ok_probe_message (T : Txt K mg A) : FnOk P w K mg base CX0 (2) A.f_probe_message A.d_probe_message ["who", "number"] (sp_probe_message A) := by
  refine T.g_probe_message.fn.ok sc_probe_message (fun vs H Q E h => ?_) (fun cdv A' outer s H vs Q E hr h => ?_)
  · obtain ⟨c, z, rfl, _⟩ := h
    rfl
  · obtain ⟨x, z, rfl, k⟩ := h
    have e4 := le4 z
    refine ⟨_, (pss_one (ps_ret (pe_frz (pe_op op_catR (pe_lst (pa_cons (pe_glob (v := .int (7)) rfl T.k_PROBE ⟨_, rfl⟩) (pa_cons (pv 0) pa_nil))) (pe_call (ok_four_bytes T) (hr.mono (by decide)) rfl T.g_four_bytes.mg T.g_four_bytes.fn.kp T.g_four_bytes.bd .nil pass0 (pa_cons (pv 1) pa_nil)))))), ?_⟩
    try dsimp only [cxOf, Cx.nox, Cx.wish]
    walk_at "rd"
    refine ⟨_, rfl, fun p2 hp2 => ?_⟩
    refine rd_cat (.inl (by rw [upd_ne (ne_of_none upd_same hp2)]; exact upd_same)) (.inl upd_same) (Nat.le_trans (m := 6) (Nat.le_of_ble_eq_true rfl) (Nat.le_trans (by decide) line_big)) fun p3 hp3 => ?_
    refine rd_kFrzN fun od => ?_
    walk_at "rd"
    refine k _ _ (((Ext.alloc (by assumption)).trans (Ext.alloc hp2)).trans (Ext.alloc hp3)) ⟨od, ?_⟩
    rw [upd_same]
    show _ = some (HO.frz od (.lst (((7 : Int) :: _ :: byL (Sa77.le 4 z)).map V.int)))
    rw [e4]
    rfl
def sp_record_message (_ : Adr) : Sp := fun vs H Q _ => ∃ (x : Nat) (b : Addr) (m : Bool) (s : List Nat) (g : List Sa77.Work), vs = [.int x, .ref b] ∧ Fz H b (byL (Sa77.recordBytes m s g)) ∧ (Sa77.recordBytes m s g).length ≤ 8192 ∧ NewB H Q (byL (Sa77.Msg.record x m s g).bytes)
theorem ok_record_message (T : Txt K mg A) : FnOk P w K mg base CX0 (2) A.f_record_message A.d_record_message ["number", "record"] (sp_record_message A) := by
  refine T.g_record_message.fn.ok sc_record_message (fun vs H Q E h => ?_) (fun cdv A' outer s H vs Q E hr h => ?_)
  · obtain ⟨x, b, m, s, g, rfl, _⟩ := h
    rfl
  · obtain ⟨z, b, m, s, g, rfl, hb, hl, k⟩ := h
    have e4 := le4 z
    refine ⟨_, (pss_one (ps_ret (pe_frz (pe_op op_catR (pe_op op_catR (pe_lst (pa_cons (pe_glob (v := .int (4)) rfl T.k_RECORD ⟨_, rfl⟩) pa_nil)) (pe_call (ok_four_bytes T) (hr.mono (by decide)) rfl T.g_four_bytes.mg T.g_four_bytes.fn.kp T.g_four_bytes.bd .nil pass0 (pa_cons (pv 0) pa_nil))) (pv 1))))), ?_⟩
    try dsimp only [cxOf, Cx.nox, Cx.wish]
    walk_at "rd"
    refine ⟨_, rfl, fun p2 hp2 => ?_⟩
    refine rd_cat (.inl (by rw [upd_ne (ne_of_none upd_same hp2)]; exact upd_same)) (.inl upd_same) (Nat.le_trans (m := 6) (Nat.le_of_ble_eq_true rfl) (Nat.le_trans (by decide) line_big)) fun p3 hp3 => ?_
    walk_at "rd"
    refine rd_cat (.inl upd_same) (((hb.mono (.alloc (by assumption))).mono (.alloc hp2)).mono (.alloc hp3)).rd ?_ fun p4 hp4 => ?_
    · rw [map_len, ints_len]; have := line_big; simp only [List.length_append, List.length_cons, List.length_nil]; omega
    refine rd_kFrzN fun od => ?_
    walk_at "rd"
    refine k _ _ ((((Ext.alloc (by assumption)).trans (Ext.alloc hp2)).trans (Ext.alloc hp3)).trans (Ext.alloc hp4)) ⟨od, ?_⟩
    rw [upd_same]
    show _ = some (HO.frz od (.lst (((4 : Int) :: byL (Sa77.le 4 z ++ Sa77.recordBytes m s g)).map V.int)))
    rw [show byL (Sa77.le 4 z ++ Sa77.recordBytes m s g) = byL (Sa77.le 4 z) ++ byL (Sa77.recordBytes m s g) from List.map_append, e4]
    rfl
def sp_want_message (_ : Adr) : Sp := fun vs H Q _ => vs = [] ∧ NewB H Q (byL Sa77.Msg.want.bytes)
theorem ok_want_message (T : Txt K mg A) : FnOk P w K mg base CX0 (1) A.f_want_message A.d_want_message [] (sp_want_message A) := by
  refine T.g_want_message.fn.ok sc_want_message (fun vs H Q E h => ?_) (fun cdv A' outer s H vs Q E hr h => ?_)
  · obtain ⟨rfl, _⟩ := h
    rfl
  · obtain ⟨rfl, k⟩ := h
    refine ⟨_, (pss_one (ps_ret (pe_frz (pe_lst (pa_cons (pe_glob (v := .int (5)) rfl T.k_WANT_messages ⟨_, rfl⟩) pa_nil))))), ?_⟩
    try dsimp only [cxOf, Cx.nox, Cx.wish]
    walk_at "rd"
    refine rd_kFrzN fun od => ?_
    walk_at "rd"
    exact k _ _ (Ext.alloc (by assumption)) ⟨od, upd_same⟩
def sp_grant_message (_ : Adr) : Sp := fun vs H Q _ => vs = [] ∧ NewB H Q (byL Sa77.Msg.grant.bytes)
theorem ok_grant_message (T : Txt K mg A) : FnOk P w K mg base CX0 (1) A.f_grant_message A.d_grant_message [] (sp_grant_message A) := by
  refine T.g_grant_message.fn.ok sc_grant_message (fun vs H Q E h => ?_) (fun cdv A' outer s H vs Q E hr h => ?_)
  · obtain ⟨rfl, _⟩ := h
    rfl
  · obtain ⟨rfl, k⟩ := h
    refine ⟨_, (pss_one (ps_ret (pe_frz (pe_lst (pa_cons (pe_glob (v := .int (6)) rfl T.k_GRANT_messages ⟨_, rfl⟩) pa_nil))))), ?_⟩
    try dsimp only [cxOf, Cx.nox, Cx.wish]
    walk_at "rd"
    refine rd_kFrzN fun od => ?_
    walk_at "rd"
    exact k _ _ (Ext.alloc (by assumption)) ⟨od, upd_same⟩
end
section
variable {P : Program} {w : World} {K : PySem.W.Frag} {mg : Str → Option Value} {base : Heap} {A : Adr}
def sp_number_at (_ : Adr) : Sp := fun vs H Q _ => ∃ (b : Addr) (bs : List Nat) (i a0 a1 a2 a3 : Nat), vs = [.ref b, .int i] ∧ Fz H b (byL bs) ∧ bs[i]? = some a0 ∧ bs[i + 1]? = some a1 ∧ bs[i + 2]? = some a2 ∧ bs[i + 3]? = some a3 ∧ Q (.int ((a0 + a1 * 256 + a2 * 65536 + a3 * 16777216 : Nat) : Int)) H
theorem ok_number_at (T : Txt K mg A) : FnOk P w K mg base CX0 (1) A.f_number_at A.d_number_at ["message", "at"] (sp_number_at A) := by
  refine T.g_number_at.fn.ok sc_number_at (fun vs H Q E h => ?_) (fun cdv A' outer s H vs Q E hr h => ?_)
  · obtain ⟨b, bs, i, a0, a1, a2, a3, rfl, _⟩ := h
    rfl
  · obtain ⟨b, bs, i, a0, a1, a2, a3, rfl, hb, h0, h1, h2, h3, k⟩ := h
    refine ⟨_, (pss_one (ps_ret (pe_op op_add (pe_op op_add (pe_op op_add (pe_ix ix_list (pv 0) (pv 1) (fun _ _ => rfl)) (pe_op op_mul (pe_ix ix_list (pv 0) (pe_op op_add (pv 1) pe_int) (fun _ _ => rfl)) pe_int)) (pe_op op_mul (pe_ix ix_list (pv 0) (pe_op op_add (pv 1) pe_int) (fun _ _ => rfl)) pe_int)) (pe_op op_mul (pe_ix ix_list (pv 0) (pe_op op_add (pv 1) pe_int) (fun _ _ => rfl)) pe_int)))), ?_⟩
    try dsimp only [cxOf, Cx.nox, Cx.wish]
    walk_at "rd"
    refine rd_IxB hb rfl h0 ?_
    walk_at "rd"
    refine rd_IxB hb (n := i + 1) (by omega) h1 ?_
    walk_at "rd"
    refine rd_IxB hb (n := i + 2) (by omega) h2 ?_
    walk_at "rd"
    refine rd_IxB hb (n := i + 3) (by omega) h3 ?_
    walk_at "rd"
    exact eqI k (by omega)
def optV : Option Nat → V
  | none => .non
  | some e => .int e
theorem get_some {bs : List Nat} {i : Nat} (h : i < bs.length) : ∃ x, bs[i]? = some x := ⟨_, List.getElem?_eq_getElem h⟩
def sp_end_of_row (_ : Adr) : Sp := fun vs H Q _ => ∃ (b : Addr) (bs : List Nat) (i : Nat), vs = [.ref b, .int i] ∧ Fz H b (byL bs) ∧ Q (optV (eor bs i)) H
theorem ok_end_of_row (T : Txt K mg A) : FnOk P w K mg base CX0 (1) A.f_end_of_row A.d_end_of_row ["message", "at"] (sp_end_of_row A) := by
  refine T.g_end_of_row.fn.ok sc_end_of_row (fun vs H Q E h => ?_) (fun cdv A' outer s H vs Q E hr h => ?_)
  · obtain ⟨b, bs, i, rfl, _⟩ := h
    rfl
  · obtain ⟨b, bs, i, rfl, hb, k⟩ := h
    refine ⟨_, (pss_cons (ps_if (PW.pt (pw_or (pt_cmpR op_ge (pv 1) (pe_callB call_lenR (by rfl) T.b_len PySem.boot_len (pa_cons (pv 0) pa_nil)) (nomark _)) (pw_or1 (pt_cmpR op_gt (pe_ix ix_list (pv 0) (pv 1) (fun _ _ => rfl)) (pe_glob (v := .int (64)) rfl T.k_MOST_BYTES ⟨_, rfl⟩) (nomark _))))) (pss_one (ps_ret pe_non)) pss_nil)
      (pss_cons (ps_set (i := 2) sc_end_of_row.nd rfl (Or.inl rfl) (pe_op op_add (pe_op op_add (pv 1) pe_int) (pe_ix ix_list (pv 0) (pv 1) (fun _ _ => rfl))))
      (pss_one (ps_ret (pe_ifExp (pt_cmpR op_le (pv 2) (pe_callB call_lenR (by rfl) T.b_len PySem.boot_len (pa_cons (pv 0) pa_nil)) (nomark _)) (pv 2) pe_non))))), ?_⟩
    try dsimp only [cxOf, Cx.nox, Cx.wish]
    walk_at "rd"
    refine rd_iteD (fun hc => ?_) (fun hc => ?_)
    · walk_at "rd"
      refine eqV k ?_
      unfold eor
      rw [List.getElem?_eq_none (by omega)]; rfl
    obtain ⟨x, hx⟩ := get_some (bs := bs) (i := i) (by omega)
    walk_at "rd"
    refine rd_IxB hb rfl hx ?_
    walk_at "rd"
    refine rd_iteD (fun hc2 => ?_) (fun hc2 => ?_)
    · walk_at "rd"
      refine eqV k ?_
      unfold eor
      rw [hx]
      show optV (if 64 < x then none else _) = _
      rw [if_pos (by omega)]; rfl
    walk_at "rd"
    refine rd_IxB hb rfl hx ?_
    walk_at "rd"
    refine rd_iteD (fun hc3 => ?_) (fun hc3 => ?_)
    · walk_at "rd"
      refine eqV k ?_
      unfold eor
      rw [hx]
      show optV (if 64 < x then none else _) = _
      rw [if_neg (by omega), if_pos (by omega)]
      show V.int _ = V.int _
      congr 1
    · walk_at "rd"
      refine eqV k ?_
      unfold eor
      rw [hx]
      show optV (if 64 < x then none else _) = _
      rw [if_neg (by omega), if_neg (by omega)]; rfl
def sp_end_of_works (_ : Adr) : Sp := fun vs H Q _ => ∃ (b : Addr) (bs : List Nat) (i n : Nat), vs = [.ref b, .int i, .int n] ∧ Fz H b (byL bs) ∧ Q (optV (eow bs i n)) H
theorem ok_end_of_works (T : Txt K mg A) : FnOk P w K mg base CX0 (2) A.f_end_of_works A.d_end_of_works ["message", "at", "n"] (sp_end_of_works A) := by
  refine T.g_end_of_works.fn.ok sc_end_of_works (fun vs H Q E h => ?_) (fun cdv A' outer s H vs Q E hr h => ?_)
  · obtain ⟨b, bs, i, n, rfl, _⟩ := h
    rfl
  · obtain ⟨b, bs, i, n, rfl, hb, k⟩ := h
    refine ⟨_, (pss_cons (ps_if (PW.pt (pw_or (pt_cmpR op_ge (pv 1) (pe_callB call_lenR (by rfl) T.b_len PySem.boot_len (pa_cons (pv 0) pa_nil)) (nomark _)) (pw_or1 (pt_cmpR op_gt (pe_ix ix_list (pv 0) (pv 1) (fun _ _ => rfl)) (pe_glob (v := .int (64)) rfl T.k_MOST_WORKS ⟨_, rfl⟩) (nomark _))))) (pss_one (ps_ret pe_non)) pss_nil)
      (pss_cons (ps_set (i := 3) sc_end_of_works.nd rfl (Or.inl rfl) (pe_ix ix_list (pv 0) (pv 1) (fun _ _ => rfl)))
      (pss_cons (ps_set (i := 4) sc_end_of_works.nd rfl (Or.inl rfl) (pe_op op_add (pv 1) pe_int))
      (pss_cons (ps_while PassesOwn.never (pt_cmpR op_gt (pv 3) pe_int (nomark _)) (pss_cons (ps_if (PW.pt (pw_or (pt_cmpR op_ge (pv 4) (pe_callB call_lenR (by rfl) T.b_len PySem.boot_len (pa_cons (pv 0) pa_nil)) (nomark _)) (pw_or1 (pt_cmpR op_ge (pe_ix ix_list (pv 0) (pv 4) (fun _ _ => rfl)) (pv 2) (nomark _))))) (pss_one (ps_ret pe_non)) pss_nil)
      (pss_cons (ps_set (i := 4) sc_end_of_works.nd rfl (Or.inl rfl) (pe_call (ok_end_of_row T) (hr.mono (by decide)) rfl T.g_end_of_row.mg T.g_end_of_row.fn.kp T.g_end_of_row.bd .nil pass0 (pa_cons (pv 0) (pa_cons (pe_op op_add (pv 4) pe_int) pa_nil))))
      (pss_cons (ps_if (pt_cmpR op_isNR (pv 4) pe_non (nomark _)) (pss_one (ps_ret pe_non)) pss_nil)
      (pss_one (ps_set (i := 3) sc_end_of_works.nd rfl (Or.inl rfl) (pe_op op_sub (pv 3) pe_int)))))))
      (pss_one (ps_ret (pv 4))))))), ?_⟩
    try dsimp only [cxOf, Cx.nox, Cx.wish]
    walk_at "rd"
    refine rd_iteD (fun hc => ?_) (fun hc => ?_)
    · walk_at "rd"
      refine eqV k ?_
      unfold eow
      rw [List.getElem?_eq_none (by omega)]; rfl
    obtain ⟨x, hx⟩ := get_some (bs := bs) (i := i) (by omega)
    walk_at "rd"
    refine rd_IxB hb rfl hx ?_
    walk_at "rd"
    refine rd_iteD (fun hc2 => ?_) (fun hc2 => ?_)
    · walk_at "rd"
      refine eqV k ?_
      unfold eow
      rw [hx]
      show optV (if 64 < x then none else _) = _
      rw [if_pos (by omega)]; rfl
    walk_at "rd"
    refine rd_IxB hb rfl hx ?_
    walk_at "rd"
    have ke : Q (optV (eowL bs n x (i + 1))) H := by
      refine eqV k ?_
      unfold eow
      rw [hx]
      show optV (if 64 < x then none else _) = _
      rw [if_neg (by omega)]
    refine ⟨fun m σ H1 => H1 = H ∧ ∃ e : Nat, σ = [some (.ref b), some (.int i), some (.int n), some (.int m), some (.int e)] ∧ Q (optV (eowL bs n m e)) H, ⟨x, rfl, i + 1, rfl, ke⟩, ?_⟩
    rintro m σ H1 ⟨rfl, e, rfl, km⟩
    walk_at "rd"
    refine rd_iteD (fun hc3 => ?_) (fun hc3 => ?_)
    · obtain ⟨m', rfl⟩ : ∃ m', m = m' + 1 := ⟨m - 1, by omega⟩
      unfold eowL at km
      refine ⟨fun σ' H' => H' = H1 ∧ ∃ e : Nat, σ' = [some (.ref b), some (.int i), some (.int n), some (.int m'), some (.int e)] ∧ Q (optV (eowL bs n m' e)) H1, fun σ' H' ⟨q1, e', q2, q3⟩ => ⟨m', by omega, q1, e', q2, q3⟩, ?_⟩
      walk_at "rd"
      refine rd_iteD (fun hc4 => ?_) (fun hc4 => ?_)
      · walk_at "rd"
        rw [List.getElem?_eq_none (by omega)] at km
        exact km
      obtain ⟨f, hf⟩ := get_some (bs := bs) (i := e) (by omega)
      rw [hf] at km
      walk_at "rd"
      refine rd_IxB hb rfl hf ?_
      walk_at "rd"
      refine rd_iteD (fun hc5 => ?_) (fun hc5 => ?_)
      · walk_at "rd"
        refine eqV km ?_
        show optV (if n ≤ f then none else _) = _
        rw [if_pos (by omega)]; rfl
      walk_at "rd"
      refine ⟨_, _, e + 1, rfl, hb, ?_⟩
      have km2 : Q (optV (match eor bs (e + 1) with | none => none | some e' => eowL bs n m' e')) H1 := by
        refine eqV km ?_
        show optV (if n ≤ f then none else _) = _
        rw [if_neg (by omega)]
        all_goals (cases eor bs (e + 1) <;> rfl)
      walk_at "rd"
      cases he : eor bs (e + 1) with
      | none =>
        rw [he] at km2
        rw [show decide (optV none = V.non) = true from rfl]
        walk_at "rd"
        exact km2
      | some e' =>
        rw [he] at km2
        rw [show decide (optV (some e') = V.non) = false from rfl]
        walk_at "rd"
        refine ⟨rfl, e', ?_, km2⟩
        show [some (V.ref b), some (.int i), some (.int n), some (.int (((m' + 1 : Nat) : Int) - 1)), some (.int e')] = _
        rw [show (((m' + 1 : Nat) : Int) - 1) = (m' : Int) by omega]
    · obtain rfl : m = 0 := by omega
      walk_at "rd"
      exact km
def sp_is_right_record (_ : Adr) : Sp := fun vs H Q _ => ∃ (b : Addr) (bs : List Nat) (n : Nat), vs = [.ref b, .int n] ∧ Fz H b (byL bs) ∧ Q (.bl (isRR bs n)) H
theorem ok_is_right_record (T : Txt K mg A) : FnOk P w K mg base CX0 (3) A.f_is_right_record A.d_is_right_record ["message", "n"] (sp_is_right_record A) := by
  refine T.g_is_right_record.fn.ok sc_is_right_record (fun vs H Q E h => ?_) (fun cdv A' outer s H vs Q E hr h => ?_)
  · obtain ⟨b, bs, n, rfl, _⟩ := h
    rfl
  · obtain ⟨b, bs, n, rfl, hb, k⟩ := h
    unfold isRR at k
    refine ⟨_, (pss_cons (ps_if (PW.pt (pw_or (pt_cmpR op_le (pe_callB call_lenR (by rfl) T.b_len PySem.boot_len (pa_cons (pv 0) pa_nil)) (pe_glob (v := .int (5)) rfl T.k_TOO_MUCH_AT ⟨_, rfl⟩) (nomark _)) (pw_or1 (pt_cmpR op_gt (pe_ix ix_list (pv 0) (pe_glob (v := .int (5)) rfl T.k_TOO_MUCH_AT ⟨_, rfl⟩) (fun _ _ => rfl)) pe_int (nomark _))))) (pss_one (ps_ret pe_bl)) pss_nil)
      (pss_cons (ps_set (i := 2) sc_is_right_record.nd rfl (Or.inl rfl) (pe_call (ok_end_of_row T) (hr.mono (by decide)) rfl T.g_end_of_row.mg T.g_end_of_row.fn.kp T.g_end_of_row.bd .nil pass0 (pa_cons (pv 0) (pa_cons (pe_glob (v := .int (6)) rfl T.k_STATE_AT ⟨_, rfl⟩) pa_nil))))
      (pss_one (ps_ret (pe_and (pe_cmpR op_notNR (pv 2) pe_non (nomark _)) (pe_one (pe_cmpR op_eq (pe_call (ok_end_of_works T) (hr.mono (by decide)) rfl T.g_end_of_works.mg T.g_end_of_works.fn.kp T.g_end_of_works.bd .nil pass0 (pa_cons (pv 0) (pa_cons (pv 2) (pa_cons (pv 1) pa_nil)))) (pe_callB call_lenR (by rfl) T.b_len PySem.boot_len (pa_cons (pv 0) pa_nil)) (nomark _)))))))), ?_⟩
    try dsimp only [cxOf, Cx.nox, Cx.wish]
    walk_at "rd"
    refine rd_iteD (fun hc => ?_) (fun hc => ?_)
    · walk_at "rd"
      rw [List.getElem?_eq_none (by omega)] at k
      exact k
    obtain ⟨x, hx⟩ := get_some (bs := bs) (i := 5) (by omega)
    rw [hx] at k
    have k : Q (.bl (if 1 < x then false else match eor bs 6 with | none => false | some a => decide (eow bs a n = some bs.length))) H := k
    walk_at "rd"
    refine rd_IxB hb (n := 5) rfl hx ?_
    walk_at "rd"
    refine rd_iteD (fun hc2 => ?_) (fun hc2 => ?_)
    · walk_at "rd"
      rw [if_pos (by omega)] at k
      exact k
    rw [if_neg (by omega)] at k
    walk_at "rd"
    refine ⟨b, bs, 6, rfl, hb, ?_⟩
    walk_at "rd"
    cases he : eor bs 6 with
    | none =>
      rw [he] at k
      rw [show (!decide (optV none = V.non)) = false from rfl]
      walk_at "rd"
      exact k
    | some a =>
      rw [he] at k
      rw [show (!decide (optV (some a) = V.non)) = true from rfl]
      walk_at "rd"
      refine ⟨b, bs, a, n, rfl, hb, ?_⟩
      walk_at "rd"
      refine ⟨by cases eow bs a n <;> rfl, ?_⟩
      refine eqB k ?_
      rw [Bool.eq_iff_iff, decide_eq_true_eq, decide_eq_true_eq]
      cases eow bs a n with
      | none => exact ⟨fun z => (nomatch z), fun z => (nomatch z)⟩
      | some e =>
        constructor
        · intro z
          have : e = bs.length := Option.some.inj z
          rw [this]; rfl
        · intro z
          have z : V.int (e : Int) = V.int (bs.length : Int) := z
          have := V.int.inj z
          rw [show e = bs.length by omega]
theorem len_cons {k : Nat} {r : List Nat} : (((k :: r).length : Nat) : Int) = (r.length : Int) + 1 := by simp
def sp_is_right (_ : Adr) : Sp := fun vs H Q _ => ∃ (b : Addr) (bs : List Nat) (n : Nat), vs = [.ref b, .int n] ∧ Fz H b (byL bs) ∧ Q (.bl (Sa77.msgOf n bs).isSome) H
theorem ok_is_right (T : Txt K mg A) : FnOk P w K mg base CX0 (4) A.f_is_right A.d_is_right ["message", "n"] (sp_is_right A) := by
  refine T.g_is_right.fn.ok sc_is_right (fun vs H Q E h => ?_) (fun cdv A' outer s H vs Q E hr h => ?_)
  · obtain ⟨b, bs, n, rfl, _⟩ := h
    rfl
  · obtain ⟨b, bs, n, rfl, hb, k⟩ := h
    refine ⟨_, (pss_cons (ps_if (pt_cmpR op_eq (pe_callB call_lenR (by rfl) T.b_len PySem.boot_len (pa_cons (pv 0) pa_nil)) pe_int (nomark _)) (pss_one (ps_ret pe_bl)) pss_nil)
      (pss_cons (ps_set (i := 2) sc_is_right.nd rfl (Or.inl rfl) (pe_ix ix_list (pv 0) pe_int (fun _ _ => rfl)))
      (pss_cons (ps_if (pt_cmpR op_eq (pv 2) (pe_glob (v := .int (1)) rfl T.k_WORK ⟨_, rfl⟩) (nomark _)) (pss_one (ps_ret (pe_cmpR op_le (pe_callB call_lenR (by rfl) T.b_len PySem.boot_len (pa_cons (pv 0) pa_nil)) (pe_op op_add pe_int (pe_glob (v := .int (64)) rfl T.k_MOST_BYTES ⟨_, rfl⟩)) (nomark _)))) pss_nil)
      (pss_cons (ps_if (pt_cmpR op_eq (pv 2) (pe_glob (v := .int (2)) rfl T.k_TOKEN ⟨_, rfl⟩) (nomark _)) (pss_one (ps_ret (pe_and (pe_cmpR op_eq (pe_callB call_lenR (by rfl) T.b_len PySem.boot_len (pa_cons (pv 0) pa_nil)) (pe_glob (v := .int (6)) rfl T.k_SIX_BYTES ⟨_, rfl⟩) (nomark _)) (pe_one (pe_cmpR op_le (pe_ix ix_list (pv 0) pe_int (fun _ _ => rfl)) pe_int (nomark _)))))) pss_nil)
      (pss_cons (ps_if (PW.pt (pw_or (pt_cmpR op_eq (pv 2) (pe_glob (v := .int (3)) rfl T.k_MARKER ⟨_, rfl⟩) (nomark _)) (pw_or1 (pt_cmpR op_eq (pv 2) (pe_glob (v := .int (7)) rfl T.k_PROBE ⟨_, rfl⟩) (nomark _))))) (pss_one (ps_ret (pe_and (pe_cmpR op_eq (pe_callB call_lenR (by rfl) T.b_len PySem.boot_len (pa_cons (pv 0) pa_nil)) (pe_glob (v := .int (6)) rfl T.k_SIX_BYTES ⟨_, rfl⟩) (nomark _)) (pe_one (pe_cmpR op_lt (pe_ix ix_list (pv 0) pe_int (fun _ _ => rfl)) (pv 1) (nomark _)))))) pss_nil)
      (pss_cons (ps_if (pt_cmpR op_eq (pv 2) (pe_glob (v := .int (4)) rfl T.k_RECORD ⟨_, rfl⟩) (nomark _)) (pss_one (ps_ret (pe_call (ok_is_right_record T) (hr.mono (by decide)) rfl T.g_is_right_record.mg T.g_is_right_record.fn.kp T.g_is_right_record.bd .nil pass0 (pa_cons (pv 0) (pa_cons (pv 1) pa_nil))))) pss_nil)
      (pss_one (ps_ret (pe_and (pe_or (pe_cmpR op_eq (pv 2) (pe_glob (v := .int (5)) rfl T.k_WANT_messages ⟨_, rfl⟩) (nomark _)) (pe_one (pe_cmpR op_eq (pv 2) (pe_glob (v := .int (6)) rfl T.k_GRANT_messages ⟨_, rfl⟩) (nomark _)))) (pe_one (pe_cmpR op_eq (pe_callB call_lenR (by rfl) T.b_len PySem.boot_len (pa_cons (pv 0) pa_nil)) pe_int (nomark _)))))))))))), ?_⟩
    try dsimp only [cxOf, Cx.nox, Cx.wish]
    walk_at "rd"
    refine rd_iteD (fun hc => ?_) (fun hc => ?_)
    · walk_at "rd"
      have : bs = [] := List.eq_nil_of_length_eq_zero (by have : (bs.length : Int) = 0 := hc; omega)
      subst this
      exact k
    obtain ⟨t, r, rfl⟩ : ∃ t r, bs = t :: r := by
      cases bs with
      | nil => exact absurd rfl hc
      | cons t r => exact ⟨t, r, rfl⟩
    have lc := @len_cons t r
    walk_at "rd"
    refine rd_IxB hb (n := 0) rfl rfl ?_
    walk_at "rd"
    refine rd_iteD (fun h1 => ?_) (fun h1 => ?_)
    · obtain rfl : t = 1 := by have : (t : Int) = 1 := h1; omega
      walk_at "rd"
      refine eqB k ?_
      rw [msg_work]
      by_cases q : r.length ≤ 64
      · rw [if_pos q]; exact (decide_eq_true (by rw [lc]; omega)).symm
      · rw [if_neg q]; exact (decide_eq_false (by rw [lc]; omega)).symm
    have n1 : t ≠ 1 := fun z => h1 (by rw [z]; rfl)
    walk_at "rd"
    refine rd_iteD (fun h2 => ?_) (fun h2 => ?_)
    · obtain rfl : t = 2 := by have : (t : Int) = 2 := h2; omega
      rw [msg_token] at k
      walk_at "rd"
      refine rd_iteD (fun q => ?_) (fun q => ?_)
      · have q : ((2 :: r).length : Int) = 6 := q
        obtain ⟨c, r', rfl⟩ : ∃ c r', r = c :: r' := by
          cases r with
          | nil => simp at q
          | cons c r' => exact ⟨c, r', rfl⟩
        walk_at "rd"
        refine rd_IxB hb (n := 1) rfl rfl ?_
        walk_at "rd"
        refine eqB k ?_
        by_cases z : c ≤ 1
        · rw [if_pos ⟨by omega, z⟩]; exact (decide_eq_true (by omega)).symm
        · rw [if_neg (fun y => z y.2)]; exact (decide_eq_false (by omega)).symm
      · walk_at "rd"
        rw [if_neg (fun y => q (by show ((2 :: r).length : Int) = 6; omega))] at k
        exact k
    have n2 : t ≠ 2 := fun z => h2 (by rw [z]; rfl)
    walk_at "rd"
    have six : (∀ (f : Nat → Nat → Sa77.Msg), Sa77.msgOf n (t :: r) = (if r.length = 5 ∧ r.headD 0 < n then some (f (r.headD 0) (Sa77.natOf r.tail)) else none) → ((r.length = 5 → r.headD 0 < n → Q (.bl true) H) ∧ (¬ (r.length = 5 ∧ r.headD 0 < n) → Q (.bl false) H))) := fun f hf => by
      rw [hf] at k
      exact ⟨fun a b => by rw [if_pos ⟨a, b⟩] at k; exact k, fun a => by rw [if_neg a] at k; exact k⟩
    refine rd_iteD (fun h3 => ?_) (fun h3 => ?_)
    · obtain rfl : t = 3 := by have : (t : Int) = 3 := h3; omega
      obtain ⟨y1, y2⟩ := six _ msg_marker
      walk_at "rd"
      refine rd_iteD (fun q => ?_) (fun q => ?_)
      · have q : ((3 :: r).length : Int) = 6 := q
        obtain ⟨c, r', rfl⟩ : ∃ c r', r = c :: r' := by
          cases r with
          | nil => simp at q
          | cons c r' => exact ⟨c, r', rfl⟩
        walk_at "rd"
        refine rd_IxB hb (n := 1) rfl rfl ?_
        walk_at "rd"
        by_cases z : c < n
        · rw [decide_eq_true (show (c : Int) < (n : Int) by omega)]; exact y1 (by omega) z
        · rw [decide_eq_false (show ¬ (c : Int) < (n : Int) by omega)]; exact y2 (fun y => z y.2)
      · walk_at "rd"
        exact y2 (fun y => q (by show ((3 :: r).length : Int) = 6; omega))
    have n3 : t ≠ 3 := fun z => h3 (by rw [z]; rfl)
    walk_at "rd"
    refine rd_iteD (fun h7 => ?_) (fun h7 => ?_)
    · obtain rfl : t = 7 := by have : (t : Int) = 7 := h7; omega
      obtain ⟨y1, y2⟩ := six _ msg_probe
      walk_at "rd"
      refine rd_iteD (fun q => ?_) (fun q => ?_)
      · have q : ((7 :: r).length : Int) = 6 := q
        obtain ⟨c, r', rfl⟩ : ∃ c r', r = c :: r' := by
          cases r with
          | nil => simp at q
          | cons c r' => exact ⟨c, r', rfl⟩
        walk_at "rd"
        refine rd_IxB hb (n := 1) rfl rfl ?_
        walk_at "rd"
        by_cases z : c < n
        · rw [decide_eq_true (show (c : Int) < (n : Int) by omega)]; exact y1 (by omega) z
        · rw [decide_eq_false (show ¬ (c : Int) < (n : Int) by omega)]; exact y2 (fun y => z y.2)
      · walk_at "rd"
        exact y2 (fun y => q (by show ((7 :: r).length : Int) = 6; omega))
    have n7 : t ≠ 7 := fun z => h7 (by rw [z]; rfl)
    walk_at "rd"
    refine rd_iteD (fun h4 => ?_) (fun h4 => ?_)
    · obtain rfl : t = 4 := by have : (t : Int) = 4 := h4; omega
      walk_at "rd"
      refine ⟨b, _, n, rfl, hb, ?_⟩
      rw [← right_record]
      exact k
    have n4 : t ≠ 4 := fun z => h4 (by rw [z]; rfl)
    walk_at "rd"
    refine rd_iteD (fun h5 => ?_) (fun h5 => ?_)
    · obtain rfl : t = 5 := by have : (t : Int) = 5 := h5; omega
      rw [msg_want] at k
      walk_at "rd"
      by_cases z : r = []
      · subst z; exact k
      · rw [if_neg z] at k
        have : r.length ≠ 0 := fun y => z (List.eq_nil_of_length_eq_zero y)
        rw [decide_eq_false (show ¬ ((5 :: r).length : Int) = 1 by omega)]
        exact k
    have n5 : t ≠ 5 := fun z => h5 (by rw [z]; rfl)
    walk_at "rd"
    by_cases h6 : t = 6
    · subst h6
      rw [msg_grant] at k
      rw [decide_eq_true (show ((6 : Nat) : Int) = 6 from rfl)]
      walk_at "rd"
      by_cases z : r = []
      · subst z; exact k
      · rw [if_neg z] at k
        have : r.length ≠ 0 := fun y => z (List.eq_nil_of_length_eq_zero y)
        rw [decide_eq_false (show ¬ ((6 :: r).length : Int) = 1 by omega)]
        exact k
    · rw [right_other n1 n2 n3 n4 n5 h6 n7] at k
      rw [decide_eq_false (show ¬ (t : Int) = 6 by omega)]
      walk_at "rd"
      exact k
end
section
variable {P : Program} {w : World} {K : PySem.W.Frag} {mg : Str → Option Value} {base : Heap} {A : Adr}
def sp_Host_is_busy (A : Adr) : Sp := fun vs H Q _ => ∃ h L S, vs = [.ref h] ∧ Rep A h L H S ∧ Q (.bl S.busy) H
theorem ok_Host_is_busy (T : Txt K mg A) : FnOk P w K mg base CX0 (1) A.f_Host_is_busy A.d_Host_is_busy ["self"] (sp_Host_is_busy A) := by
  refine T.m_Host_is_busy.fn.ok sc_Host_is_busy (fun vs H Q E h => ?_) (fun cdv A' outer s H vs Q E hr h => ?_)
  · obtain ⟨h, L, S, rfl, _⟩ := h
    rfl
  · obtain ⟨h, L, S, rfl, R, k⟩ := h
    have g := R.run
    refine ⟨_, (pss_one (ps_ret (pe_cmpR op_gt (pe_callB call_lenR (by rfl) T.b_len PySem.boot_len (pa_cons (pe_fld (pv 0) rfl) pa_nil)) (pe_glob (v := .int (512)) rfl T.k_MOST_OUTGOING ⟨_, rfl⟩) (nomark _)))), ?_⟩
    try dsimp only [cxOf, Cx.nox, Cx.wish]
    walk_at "rd"
    exact eqB k (by unfold Sa77.St.busy; apply decide_eq_decide.mpr; omega)
def sp_Host_is_other (A : Adr) : Sp := fun vs H Q _ => ∃ h L S z, vs = [.ref h, .int z] ∧ Rep A h L H S ∧ Q (.bl (Sa77.other S z)) H
theorem ok_Host_is_other (T : Txt K mg A) : FnOk P w K mg base CX0 (1) A.f_Host_is_other A.d_Host_is_other ["self", "who"] (sp_Host_is_other A) := by
  refine T.m_Host_is_other.fn.ok sc_Host_is_other (fun vs H Q E h => ?_) (fun cdv A' outer s H vs Q E hr h => ?_)
  · obtain ⟨h, L, S, z, rfl, _⟩ := h
    rfl
  · obtain ⟨h, L, S, z, rfl, R, k⟩ := h
    have g := R.run
    have no : ∀ {q : Prop}, ¬ (0 ≤ z ∧ z < S.n ∧ z ≠ S.me) → Sa77.other S z = false := fun hn => by
      cases e : Sa77.other S z with
      | true => exact absurd (other_iff.mp e) hn
      | false => rfl
    refine ⟨_, (pss_one (ps_ret (pe_and (pe_cmpR op_le pe_int (pv 1) (nomark _)) (pe_and (pe_cmpR op_lt (pv 1) (pe_fld (pv 0) rfl) (nomark _)) (pe_one (pe_cmpR op_ne (pv 1) (pe_fld (pv 0) rfl) (nomark _))))))), ?_⟩
    try dsimp only [cxOf, Cx.nox, Cx.wish]
    walk_at "rd"
    refine rd_iteD (fun h1 => ?_) (fun h1 => ?_)
    · walk_at "rd"
      refine rd_iteD (fun h2 => ?_) (fun h2 => ?_)
      · walk_at "rd"
        by_cases h3 : z = (S.me : Int)
        · exact eqB k (by rw [no (q := True) (by omega)]; simp [h3])
        · exact eqB k (by rw [other_iff.mpr ⟨h1, h2, h3⟩]; simp [h3])
      · walk_at "rd"
        exact eqB k (no (q := True) (by omega))
    · walk_at "rd"
      exact eqB k (no (q := True) (by omega))
def Post (A : Adr) (h : Addr) (L : Lay) (S : SS) (H : Hp) (Q : VK) (S' : SS) : Prop := ∀ L' H', Run A h L S H L' H' S' → Q .non H'
def sp_Host_send (A : Adr) : Sp := fun vs H Q _ => ∃ (h : Addr) (L : Lay) (S : SS) (to : Nat) (m : Sa77.Msg) (b : Addr), vs = [.ref h, .int to, .ref b] ∧ Rep A h L H S ∧ Fz H b (byL m.bytes) ∧ S.out.length ≤ 1000 ∧ Post A h L S H Q (S.put to m)
theorem ok_Host_send (T : Txt K mg A) : FnOk P w K mg base CX0 (1) A.f_Host_send A.d_Host_send ["self", "to", "message"] (sp_Host_send A) := by
  refine T.m_Host_send.fn.ok sc_Host_send (fun vs H Q E h => ?_) (fun cdv A' outer s H vs Q E hr h => ?_)
  · obtain ⟨h, L, S, to, m, b, rfl, _⟩ := h
    rfl
  · obtain ⟨h, L, S, to, m, b, rfl, R, hb, hl, k⟩ := h
    have g := R.run
    refine ⟨_, (pss_one (ps_expr (pe_bm PySem.F.plainAttrs_list PySem.F.slot_list_append PySem.F.type_list_append mt_append (pe_fld (pv 0) rfl) (pa_cons (pe_tup (pa_cons (pv 1) (pa_cons (pv 2) pa_nil))) pa_nil)))), ?_⟩
    try dsimp only [cxOf, Cx.nox, Cx.wish]
    walk_at "rd"
    rename_i p hp
    refine rd_app (xs := L.vo) ((g.alloc hp).rep.co .out trivial) (by rw [g.vo]; have := line_big; omega) ?_
    walk_at "rd"
    exact k _ _ (g.send hp hb)
def sp_Host_send_to_all (A : Adr) : Sp := fun vs H Q _ => ∃ (h : Addr) (L : Lay) (S : SS) (m : Sa77.Msg) (b : Addr), vs = [.ref h, .ref b] ∧ Rep A h L H S ∧ Fz H b (byL m.bytes) ∧ S.out.length ≤ 900 ∧ S.n ≤ 16 ∧ Post A h L S H Q (S.toAll S.others m)
theorem ok_Host_send_to_all (T : Txt K mg A) : FnOk P w K mg base CX0 (2) A.f_Host_send_to_all A.d_Host_send_to_all ["self", "message"] (sp_Host_send_to_all A) := by
  refine T.m_Host_send_to_all.fn.ok sc_Host_send_to_all (fun vs H Q E h => ?_) (fun cdv A' outer s H vs Q E hr h => ?_)
  · obtain ⟨h, L, S, m, b, rfl, _⟩ := h
    rfl
  · obtain ⟨h, L, S, m, b, rfl, R, hb, hl, hn, k⟩ := h
    have g := R.run
    refine ⟨_, (pss_one (ps_for PassesOwn.never rfl (pi_range1 rfl T.b_range (pa_cons (pe_fld (pv 0) rfl) pa_nil)) (pg_name (i := 2) sc_Host_send_to_all.nd rfl (Or.inl rfl)) (pss_one (ps_if (pt_cmpR op_ne (pv 2) (pe_fld (pv 0) rfl) (nomark _)) (pss_one (ps_expr (pe_meth (pv 0) T.cl_Host T.m_Host_send.mt (ok_Host_send T) (hr.mono (by decide)) T.m_Host_send.bd .nil pass0 (pa_cons (pv 2) (pa_cons (pv 1) pa_nil))))) pss_nil)))), ?_⟩
    try dsimp only [cxOf, Cx.nox, Cx.wish]
    walk_at "rd"
    refine rd_kRng hn ?_
    refine for_range (n := S.n) (fun i σ' H' => ∃ L' x, σ' = [some (.ref h), some (.ref b), x] ∧ Run A h L S H L' H' (S.toAll ((List.range i).filter fun k => k != S.me) m)) ?_ ?_ ?_
    · exact ⟨L, none, rfl, by rw [List.range_zero, List.filter_nil, toAll_nil]; exact g⟩
    · rintro i σ' H1 hi ⟨L1, x, rfl, g1⟩
      walk_at "rd"
      refine rd_iteN (fun hc => ?_) (fun hc => ?_)
      · walk_at "rd"
        refine ⟨h, L1, _, i, m, b, by rw [Int.zero_add], g1.rep, hb.mono g1.fr.mono, ?_, fun L2 H2 g2 => ?_⟩
        · have := toAll_len S m (fun k => k != S.me) i; omega
        walk_at "rd"
        refine ⟨L2, _, rfl, ?_⟩
        have hc : ¬ ((0 : Int) + (i : Int) = (S.me : Int)) := of_decide_eq_false hc
        rw [← toAll_yes S m _ (by simp only [bne_iff_ne]; omega)]
        exact g1.trans g2
      · walk_at "rd"
        refine ⟨L1, _, rfl, ?_⟩
        have hc : (0 : Int) + (i : Int) = (S.me : Int) := of_decide_eq_true hc
        rw [← toAll_no S m _ (by simp only [bne_eq_false_iff_eq]; omega)]
        exact g1
    · rintro σ' H1 ⟨L1, x, rfl, g1⟩
      walk_at "rd"
      exact k _ _ g1
end
section
variable {P : Program} {w : World} {K : PySem.W.Frag} {mg : Str → Option Value} {base : Heap} {A : Adr}
def sp_Host_send_work (A : Adr) : Sp := fun vs H Q _ => ∃ (h : Addr) (L : Lay) (S : SS) (to : Nat) (bs : List Nat) (b : Addr), vs = [.ref h, .int to, .ref b] ∧ Rep A h L H S ∧ Fz H b (byL bs) ∧ bs.length ≤ 64 ∧ S.out.length ≤ 1000 ∧ Post A h L S H Q (Sa77.St.put { S with sum := Sa77.wrap (S.sum + 1) } to (.work bs))
theorem ok_Host_send_work (T : Txt K mg A) : FnOk P w K mg base CX0 (2) A.f_Host_send_work A.d_Host_send_work ["self", "to", "row"] (sp_Host_send_work A) := by
  refine T.m_Host_send_work.fn.ok sc_Host_send_work (fun vs H Q E h => ?_) (fun cdv A' outer s H vs Q E hr h => ?_)
  · obtain ⟨h, L, S, to, m, b, rfl, _⟩ := h
    rfl
  · obtain ⟨h, L, S, to, bs, b, rfl, R, hb, hl, ho, k⟩ := h
    have g := R.run
    refine ⟨_, (pss_cons (ps_expr (pe_meth (pv 0) T.cl_Host T.m_Host_send.mt (ok_Host_send T) (hr.mono (by decide)) T.m_Host_send.bd .nil pass0 (pa_cons (pv 1) (pa_cons (pe_call (ok_work_message T) (hr.mono (by decide)) rfl T.g_work_message.mg T.g_work_message.fn.kp T.g_work_message.bd .nil pass0 (pa_cons (pv 2) pa_nil)) pa_nil))))
      (pss_one (ps_fld (pv 0) (pe_op op_mod (pe_op op_add (pe_fld (pv 0) rfl) pe_int) (pe_glob (v := .int (4294967296)) rfl T.k_GOES_ROUND_AT ⟨_, rfl⟩)) rfl))), ?_⟩
    try dsimp only [cxOf, Cx.nox, Cx.wish]
    walk_at "rd"
    refine ⟨_, bs, rfl, hb, hl, fun p H1 e1 f1 => ?_⟩
    have g1 := g.ext e1
    walk_at "rd"
    refine ⟨h, L, S, to, .work bs, p, rfl, g1.rep, f1, ho, fun L2 H2 g2 => ?_⟩
    have g2 := g1.trans g2
    walk_at "rd"
    refine hp_balance (z := Sa77.wrap (S.sum + 1)) T g2 ?_ fun H3 g3 => ?_
    · rw [wrap_mod]; show (S.sum % 4294967296 + 1) % 4294967296 = _; omega
    walk_at "rd"
    exact k _ _ g3
def sp_Host_last_cut_is_whole (A : Adr) : Sp := fun vs H Q _ => ∃ h L S, vs = [.ref h] ∧ Rep A h L H S ∧ Q (.bl S.whole) H
theorem ok_Host_last_cut_is_whole (T : Txt K mg A) : FnOk P w K mg base CX0 (1) A.f_Host_last_cut_is_whole A.d_Host_last_cut_is_whole ["self"] (sp_Host_last_cut_is_whole A) := by
  refine T.m_Host_last_cut_is_whole.fn.ok sc_Host_last_cut_is_whole (fun vs H Q E h => ?_) (fun cdv A' outer s H vs Q E hr h => ?_)
  · obtain ⟨h, L, S, rfl, _⟩ := h
    rfl
  · obtain ⟨h, L, S, rfl, R, k⟩ := h
    have g := R.run
    refine ⟨_, (pss_one (ps_ret (pe_cmpR op_eq (pe_callB call_lenDR (by rfl) T.b_len PySem.boot_len (pa_cons (pe_fld (pv 0) rfl) pa_nil)) (pe_fld (pv 0) rfl) (nomark _)))), ?_⟩
    try dsimp only [cxOf, Cx.nox, Cx.wish]
    walk_at "rd"
    exact eqB k (by unfold Sa77.St.whole; apply decide_eq_decide.mpr; omega)
def sp_Host_is_blocked (A : Adr) : Sp := fun vs H Q _ => ∃ h L S, vs = [.ref h] ∧ Rep A h L H S ∧ (∀ k ∈ S.wants, k < S.n) ∧ Q (.bl (S.wants != [])) H
theorem ok_Host_is_blocked (T : Txt K mg A) : FnOk P w K mg base CX0 (1) A.f_Host_is_blocked A.d_Host_is_blocked ["self"] (sp_Host_is_blocked A) := by
  refine T.m_Host_is_blocked.fn.ok sc_Host_is_blocked (fun vs H Q E h => ?_) (fun cdv A' outer s H vs Q E hr h => ?_)
  · obtain ⟨h, L, S, rfl, _⟩ := h
    rfl
  · obtain ⟨h, L, S, rfl, R, hw, k⟩ := h
    have g := R.run
    refine ⟨_, (pss_one (ps_ret (pe_callB (cr_any rfl) (by rfl) T.b_any PyProof.Rows.boot_any (pa_cons (pe_fld (pv 0) rfl) pa_nil)))), ?_⟩
    try dsimp only [cxOf, Cx.nox, Cx.wish]
    walk_at "rd"
    exact k
def sp_Host_want (A : Adr) : Sp := fun vs H Q _ => ∃ (h : Addr) (L : Lay) (S : SS) (n : Nat), vs = [.ref h, .int n] ∧ Rep A h L H S ∧ n < S.n ∧ S.out.length ≤ 1000 ∧ Post A h L S H Q (Sa77.St.put { S with wants := S.wants ++ [n] } n .want)
theorem ok_Host_want (T : Txt K mg A) : FnOk P w K mg base CX0 (2) A.f_Host_want A.d_Host_want ["self", "who"] (sp_Host_want A) := by
  refine T.m_Host_want.fn.ok sc_Host_want (fun vs H Q E h => ?_) (fun cdv A' outer s H vs Q E hr h => ?_)
  · obtain ⟨h, L, S, n, rfl, _⟩ := h
    rfl
  · obtain ⟨h, L, S, n, rfl, R, hn, ho, k⟩ := h
    have g := R.run
    refine ⟨_, (pss_cons (ps_asg pe_bl (pg_sub (pe_fld (pv 0) rfl) (pv 1) set_list))
      (pss_one (ps_expr (pe_meth (pv 0) T.cl_Host T.m_Host_send.mt (ok_Host_send T) (hr.mono (by decide)) T.m_Host_send.bd .nil pass0 (pa_cons (pv 1) (pa_cons (pe_call0 (ok_want_message T) (hr.mono (by decide)) rfl T.g_want_message.mg T.g_want_message.fn.kp T.g_want_message.bd .nil pass0) pa_nil)))))), ?_⟩
    try dsimp only [cxOf, Cx.nox, Cx.wish]
    walk_at "rd"
    refine rd_setWaits g rfl hn (blB_add S.wants hn) fun H1 g1 => ?_
    walk_at "rd"
    refine ⟨rfl, fun p H2 e2 f2 => ?_⟩
    have g2 := g1.ext e2
    walk_at "rd"
    refine ⟨h, L, _, n, .want, p, rfl, g2.rep, f2, ho, fun L3 H3 g3 => ?_⟩
    walk_at "rd"
    exact k _ _ (g2.trans g3)
def sp_Host_grant (A : Adr) : Sp := fun vs H Q _ => ∃ (h : Addr) (L : Lay) (S : SS) (n : Nat), vs = [.ref h, .int n] ∧ Rep A h L H S ∧ n < S.n ∧ S.out.length ≤ 1000 ∧ Post A h L S H Q (Sa77.St.put { S with owes := S.owes.filter fun k => k != n } n .grant)
theorem ok_Host_grant (T : Txt K mg A) : FnOk P w K mg base CX0 (2) A.f_Host_grant A.d_Host_grant ["self", "who"] (sp_Host_grant A) := by
  refine T.m_Host_grant.fn.ok sc_Host_grant (fun vs H Q E h => ?_) (fun cdv A' outer s H vs Q E hr h => ?_)
  · obtain ⟨h, L, S, n, rfl, _⟩ := h
    rfl
  · obtain ⟨h, L, S, n, rfl, R, hn, ho, k⟩ := h
    have g := R.run
    refine ⟨_, (pss_cons (ps_asg pe_bl (pg_sub (pe_fld (pv 0) rfl) (pv 1) set_list))
      (pss_one (ps_expr (pe_meth (pv 0) T.cl_Host T.m_Host_send.mt (ok_Host_send T) (hr.mono (by decide)) T.m_Host_send.bd .nil pass0 (pa_cons (pv 1) (pa_cons (pe_call0 (ok_grant_message T) (hr.mono (by decide)) rfl T.g_grant_message.mg T.g_grant_message.fn.kp T.g_grant_message.bd .nil pass0) pa_nil)))))), ?_⟩
    try dsimp only [cxOf, Cx.nox, Cx.wish]
    walk_at "rd"
    refine rd_setOwes g rfl hn (blB_del S.owes n) fun H1 g1 => ?_
    walk_at "rd"
    refine ⟨rfl, fun p H2 e2 f2 => ?_⟩
    have g2 := g1.ext e2
    walk_at "rd"
    refine ⟨h, L, _, n, .grant, p, rfl, g2.rep, f2, ho, fun L3 H3 g3 => ?_⟩
    walk_at "rd"
    exact k _ _ (g2.trans g3)
def sp_Host_want_comes (A : Adr) : Sp := fun vs H Q _ => ∃ (h : Addr) (L : Lay) (S : SS) (n : Nat), vs = [.ref h, .int n] ∧ Rep A h L H S ∧ n < S.n ∧ Post A h L S H Q (if S.owes.contains n = true then S else { S with owes := S.owes ++ [n] })
theorem ok_Host_want_comes (T : Txt K mg A) : FnOk P w K mg base CX0 (1) A.f_Host_want_comes A.d_Host_want_comes ["self", "sender"] (sp_Host_want_comes A) := by
  refine T.m_Host_want_comes.fn.ok sc_Host_want_comes (fun vs H Q E h => ?_) (fun cdv A' outer s H vs Q E hr h => ?_)
  · obtain ⟨h, L, S, n, rfl, _⟩ := h
    rfl
  · obtain ⟨h, L, S, n, rfl, R, hn, k⟩ := h
    have g := R.run
    refine ⟨_, (pss_one (ps_asg pe_bl (pg_sub (pe_fld (pv 0) rfl) (pv 1) set_list))), ?_⟩
    try dsimp only [cxOf, Cx.nox, Cx.wish]
    walk_at "rd"
    cases hc : S.owes.contains n with
    | true =>
      rw [if_pos hc] at k
      refine rd_setOwes (l := S.owes) g rfl hn (blB_same S.owes hc).symm fun H1 g1 => ?_
      walk_at "rd"
      exact k _ _ g1
    | false =>
      rw [if_neg (by rw [hc]; exact Bool.false_ne_true)] at k
      refine rd_setOwes g rfl hn (blB_add S.owes hn) fun H1 g1 => ?_
      walk_at "rd"
      exact k _ _ g1
def sp_Host_grant_comes (A : Adr) : Sp := fun vs H Q _ => ∃ (h : Addr) (L : Lay) (S : SS) (n : Nat), vs = [.ref h, .int n] ∧ Rep A h L H S ∧ n < S.n ∧ Post A h L S H Q { S with wants := S.wants.filter fun k => k != n }
theorem ok_Host_grant_comes (T : Txt K mg A) : FnOk P w K mg base CX0 (1) A.f_Host_grant_comes A.d_Host_grant_comes ["self", "sender"] (sp_Host_grant_comes A) := by
  refine T.m_Host_grant_comes.fn.ok sc_Host_grant_comes (fun vs H Q E h => ?_) (fun cdv A' outer s H vs Q E hr h => ?_)
  · obtain ⟨h, L, S, n, rfl, _⟩ := h
    rfl
  · obtain ⟨h, L, S, n, rfl, R, hn, k⟩ := h
    have g := R.run
    refine ⟨_, (pss_one (ps_asg pe_bl (pg_sub (pe_fld (pv 0) rfl) (pv 1) set_list))), ?_⟩
    try dsimp only [cxOf, Cx.nox, Cx.wish]
    walk_at "rd"
    refine rd_setWaits g rfl hn (blB_del S.wants n) fun H1 g1 => ?_
    walk_at "rd"
    exact k _ _ g1
def sp_Host_send_probe (A : Adr) : Sp := fun vs H Q _ => ∃ (h : Addr) (L : Lay) (S : SS) (x k : Nat), vs = [.ref h, .int x, .int k] ∧ Rep A h L H S ∧ S.out.length ≤ 900 ∧ S.n ≤ 16 ∧ (∀ k ∈ S.wants, k < S.n) ∧ Post A h L S H Q (S.toAll (Sa77.sorted S.wants) (.probe x k))
theorem ok_Host_send_probe (T : Txt K mg A) : FnOk P w K mg base CX0 (3) A.f_Host_send_probe A.d_Host_send_probe ["self", "who", "number"] (sp_Host_send_probe A) := by
  refine T.m_Host_send_probe.fn.ok sc_Host_send_probe (fun vs H Q E h => ?_) (fun cdv A' outer s H vs Q E hr h => ?_)
  · obtain ⟨h, L, S, x, k, rfl, _⟩ := h
    rfl
  · obtain ⟨h, L, S, x, y, rfl, R, hl, hn, hw, k⟩ := h
    have g := R.run
    rw [sorted_eq hn hw] at k
    refine ⟨_, (pss_one (ps_for PassesOwn.never rfl (pi_range1 rfl T.b_range (pa_cons (pe_fld (pv 0) rfl) pa_nil)) (pg_name (i := 3) sc_Host_send_probe.nd rfl (Or.inl rfl)) (pss_one (ps_if (pt_val (pe_ix ix_list (pe_fld (pv 0) rfl) (pv 3) (fun _ _ => rfl))) (pss_one (ps_expr (pe_meth (pv 0) T.cl_Host T.m_Host_send.mt (ok_Host_send T) (hr.mono (by decide)) T.m_Host_send.bd .nil pass0 (pa_cons (pv 3) (pa_cons (pe_call (ok_probe_message T) (hr.mono (by decide)) rfl T.g_probe_message.mg T.g_probe_message.fn.kp T.g_probe_message.bd .nil pass0 (pa_cons (pv 1) (pa_cons (pv 2) pa_nil))) pa_nil))))) pss_nil)))), ?_⟩
    try dsimp only [cxOf, Cx.nox, Cx.wish]
    walk_at "rd"
    refine rd_kRng hn ?_
    refine for_range (n := S.n) (fun i σ' H' => ∃ L' v, σ' = [some (.ref h), some (.int x), some (.int y), v] ∧ Run A h L S H L' H' (S.toAll ((List.range i).filter fun k => S.wants.contains k) (.probe x y))) ?_ ?_ ?_
    · exact ⟨L, none, rfl, by rw [List.range_zero, List.filter_nil, toAll_nil]; exact g⟩
    · rintro i σ' H1 hi ⟨L1, v, rfl, g1⟩
      walk_at "rd"
      refine rd_IxWaits g1 (n := i) (Int.zero_add _) hi ?_
      walk_at "rd"
      refine rd_ite (fun hc => ?_) (fun hc => ?_)
      · walk_at "rd"
        refine ⟨x, y, rfl, fun p H2 e2 f2 => ?_⟩
        have g2 := g1.ext e2
        walk_at "rd"
        refine ⟨h, L1, _, i, _, p, by rw [Int.zero_add], g2.rep, f2, ?_, fun L3 H3 g3 => ?_⟩
        · have := toAll_len S (.probe x y) (fun k => S.wants.contains k) i; omega
        walk_at "rd"
        refine ⟨L3, _, rfl, ?_⟩
        rw [← toAll_yes S (.probe x y) (fun k => S.wants.contains k) hc]
        exact g2.trans g3
      · walk_at "rd"
        refine ⟨L1, _, rfl, ?_⟩
        rw [← toAll_no S (.probe x y) (fun k => S.wants.contains k) hc]
        exact g1
    · rintro σ' H1 ⟨L1, v, rfl, g1⟩
      walk_at "rd"
      exact k _ _ g1
def sp_Host_suspect (A : Adr) : Sp := fun vs H Q _ => ∃ h L S, vs = [.ref h] ∧ Rep A h L H S ∧ S.out.length ≤ 900 ∧ S.n ≤ 16 ∧ (∀ k ∈ S.wants, k < S.n) ∧ Post A h L S H Q (Sa77.St.toAll { S with guess := S.guess + 1 } (Sa77.sorted S.wants) (.probe S.me (S.guess + 1)))
theorem ok_Host_suspect (T : Txt K mg A) : FnOk P w K mg base CX0 (4) A.f_Host_suspect A.d_Host_suspect ["self"] (sp_Host_suspect A) := by
  refine T.m_Host_suspect.fn.ok sc_Host_suspect (fun vs H Q E h => ?_) (fun cdv A' outer s H vs Q E hr h => ?_)
  · obtain ⟨h, L, S, rfl, _⟩ := h
    rfl
  · obtain ⟨h, L, S, rfl, R, hl, hn, hw, k⟩ := h
    have g := R.run
    refine ⟨_, (pss_cons (ps_fld (pv 0) (pe_op op_add (pe_fld (pv 0) rfl) pe_int) rfl)
      (pss_one (ps_expr (pe_meth (pv 0) T.cl_Host T.m_Host_send_probe.mt (ok_Host_send_probe T) (hr.mono (by decide)) T.m_Host_send_probe.bd .nil pass0 (pa_cons (pe_fld (pv 0) rfl) (pa_cons (pe_fld (pv 0) rfl) pa_nil)))))), ?_⟩
    try dsimp only [cxOf, Cx.nox, Cx.wish]
    walk_at "rd"
    refine hp_suspect_number (k := S.guess + 1) T g rfl fun H1 g1 => ?_
    walk_at "rd"
    refine ⟨h, L, _, S.me, S.guess + 1, rfl, g1.rep, hl, hn, hw, fun L2 H2 g2 => ?_⟩
    walk_at "rd"
    exact k _ _ (g1.trans g2)
end
section
variable {P : Program} {w : World} {K : PySem.W.Frag} {mg : Str → Option Value} {base : Heap} {A : Adr}
def sp_Token_init (A : Adr) : Sp := fun vs H Q _ => ∃ x dx c z, vs = [.ref x, .bl c, .int z] ∧ H x = some (.ins A.c_Token dx []) ∧ Q .non (upd H x (.ins A.c_Token dx (fToken { black_ := c, total_ := z })))
theorem ok_Token_init (T : Txt K mg A) : FnOk P w K mg base CX0 (1) A.f_Token_init A.d_Token_init ["self", "black", "total"] (sp_Token_init A) := by
  refine T.m_Token_init.fn.ok sc_Token_init (fun vs H Q E h => ?_) (fun cdv A' outer s H vs Q E hr h => ?_)
  · obtain ⟨x, dx, c, z, rfl, _⟩ := h
    rfl
  · obtain ⟨x, dx, c, z, rfl, hx, k⟩ := h
    refine ⟨_, (pss_cons (ps_fld (pv 0) (pv 1) rfl)
      (pss_one (ps_fld (pv 0) (pv 2) rfl))), ?_⟩
    try dsimp only [cxOf, Cx.nox, Cx.wish]
    walk_at "rd"
    refine rd_kPut hx T.cl_Token T.na_Token_black (Nat.le_of_ble_eq_true rfl) ?_
    walk_at "rd"
    refine rd_kPut upd_same T.cl_Token T.na_Token_total (Nat.le_of_ble_eq_true rfl) ?_
    rw [upd_upd]
    walk_at "rd"
    exact k
def sp_Host_pass_token (A : Adr) : Sp := fun vs H Q _ => ∃ h L S, vs = [.ref h] ∧ Rep A h L H S ∧ S.out.length ≤ 1000 ∧ 1 ≤ S.n ∧ Post A h L S H Q (Sa77.pass S)
theorem ok_Host_pass_token (T : Txt K mg A) : FnOk P w K mg base CX0 (3) A.f_Host_pass_token A.d_Host_pass_token ["self"] (sp_Host_pass_token A) := by
  refine T.m_Host_pass_token.fn.ok sc_Host_pass_token (fun vs H Q E h => ?_) (fun cdv A' outer s H vs Q E hr h => ?_)
  · obtain ⟨h, L, S, rfl, _⟩ := h
    rfl
  · obtain ⟨h, L, S, rfl, R, ho, hn, k⟩ := h
    have g := R.run
    refine ⟨_, (pss_cons (ps_if (PW.pt (pw_or (pt_val (pe_fld (pv 0) rfl)) (pw_or1 (pt_cmpR op_isNR (pe_fld (pv 0) rfl) pe_non (nomark _))))) (pss_one ps_retN) pss_nil)
      (pss_cons (ps_set (i := 1) sc_Host_pass_token.nd rfl (Or.inl rfl) (pe_fld (pv 0) rfl))
      (pss_cons (ps_fld (pv 0) pe_non rfl)
      (pss_cons (ps_set (i := 2) sc_Host_pass_token.nd rfl (Or.inl rfl) (pe_or (pe_fld (pv 1) rfl) (pe_one (pe_fld (pv 0) rfl))))
      (pss_cons (ps_set (i := 3) sc_Host_pass_token.nd rfl (Or.inl rfl) (pe_op op_mod (pe_op op_add (pe_fld (pv 1) rfl) (pe_fld (pv 0) rfl)) (pe_glob (v := .int (4294967296)) rfl T.k_GOES_ROUND_AT ⟨_, rfl⟩)))
      (pss_cons (ps_if (pt_cmpR op_gt (pe_fld (pv 0) rfl) pe_int (nomark _)) (pss_one (ps_expr (pe_meth (pv 0) T.cl_Host T.m_Host_send.mt (ok_Host_send T) (hr.mono (by decide)) T.m_Host_send.bd .nil pass0 (pa_cons (pe_op op_sub (pe_fld (pv 0) rfl) pe_int) (pa_cons (pe_call (ok_token_message T) (hr.mono (by decide)) rfl T.g_token_message.mg T.g_token_message.fn.kp T.g_token_message.bd .nil pass0 (pa_cons (pv 2) (pa_cons (pv 3) pa_nil))) pa_nil))))) (pss_one (ps_if (PW.pt (pw_or (pt_val (pv 2)) (pw_or1 (pt_cmpR op_ne (pv 3) pe_int (nomark _))))) (pss_one (ps_expr (pe_meth (pv 0) T.cl_Host T.m_Host_send.mt (ok_Host_send T) (hr.mono (by decide)) T.m_Host_send.bd .nil pass0 (pa_cons (pe_op op_sub (pe_fld (pv 0) rfl) pe_int) (pa_cons (pe_call (ok_token_message T) (hr.mono (by decide)) rfl T.g_token_message.mg T.g_token_message.fn.kp T.g_token_message.bd .nil pass0 (pa_cons pe_bl (pa_cons pe_int pa_nil))) pa_nil))))) (pss_one (ps_fld (pv 0) pe_bl rfl)))))
      (pss_one (ps_fld (pv 0) pe_bl rfl)))))))), ?_⟩
    try dsimp only [cxOf, Cx.nox, Cx.wish]
    walk_at "rd"
    refine rd_ite (fun ha => ?_) (fun ha => ?_)
    · walk_at "rd"
      have e : Sa77.pass S = S := by
        unfold Sa77.pass
        split
        · rfl
        · rw [if_pos ha]
      rw [e] at k
      exact k _ _ g
    walk_at "rd"
    rw [tokV_non]
    cases ht : S.token with
    | none =>
      rw [show (none : Option (Bool × Int)).isNone = true from rfl]
      walk_at "rd"
      have e : Sa77.pass S = S := by
        unfold Sa77.pass
        rw [ht]
      rw [e] at k
      exact k _ _ g
    | some cz =>
      obtain ⟨c, z⟩ := cz
      rw [show (some (c, z)).isNone = false from rfl]
      walk_at "rd"
      have tv : tokV L S = .ref (L.ad .tok) := by unfold tokV; rw [ht]
      rw [tv]
      walk_at "rd"
      refine hp_token_drop T g ht fun H1 g1 et => ?_
      walk_at "rd"
      refine g_Token_black T ⟨_, _, et, ?_⟩
      refine rd_orPure (y := S.black) (fun Q' q' => by walk_at "rd"; exact q') ?_
      walk_at "rd"
      refine g_Token_total T ⟨_, _, et, ?_⟩
      walk_at "rd"
      have em : (z % 4294967296 + S.sum % 4294967296) % 4294967296 = Sa77.wrap (z + S.sum) % 4294967296 := by rw [wrap_mod]; omega
      refine rd_iteD (fun hm => ?_) (fun hm => ?_)
      · have hm : (0 : Int) < (S.me : Int) := hm
        have e : Sa77.pass S = Sa77.St.put { S with token := none, black := false } (S.me - 1) (.token (c || S.black) (Sa77.wrap (z + S.sum))) := by
          unfold Sa77.pass
          rw [ht]
          show (if S.active = true then S else if S.me ≠ 0 then _ else _) = _
          rw [if_neg (by rw [ha]; exact Bool.false_ne_true), if_pos (by omega)]
        rw [e] at k
        walk_at "rd"
        refine ⟨c || S.black, Sa77.wrap (z + S.sum), by rw [← em], fun p H2 e2 f2 => ?_⟩
        have g2 := g1.ext e2
        walk_at "rd"
        refine ⟨h, L, _, S.me - 1, _, p, by rw [show ((S.me - 1 : Nat) : Int) = (S.me : Int) - 1 by omega], g2.rep, f2, ho, fun L3 H3 g3 => ?_⟩
        have g3 := g2.trans g3
        walk_at "rd"
        exact k _ _ (by assumption)
      · have hm : ¬ (0 : Int) < (S.me : Int) := hm
        have hme : ¬ S.me ≠ 0 := by omega
        have e0 : Sa77.pass S = if c = false ∧ S.black = false ∧ Sa77.wrap (z + S.sum) = 0 then { S with token := none, found := true } else Sa77.St.put { S with token := none, black := false } (S.n - 1) (.token false 0) := by
          unfold Sa77.pass
          rw [ht]
          show (if S.active = true then S else if S.me ≠ 0 then _ else _) = _
          rw [if_neg (by rw [ha]; exact Bool.false_ne_true), if_neg hme]
        walk_at "rd"
        refine rd_ite (fun hb => ?_) (fun hb => ?_)
        · have e : Sa77.pass S = Sa77.St.put { S with token := none, black := false } (S.n - 1) (.token false 0) := by
            rw [e0, if_neg]
            rintro ⟨h1, h2, _⟩
            rw [h1, h2] at hb; cases hb
          rw [e] at k
          walk_at "rd"
          refine ⟨false, 0, rfl, fun p H2 e2 f2 => ?_⟩
          have g2 := g1.ext e2
          walk_at "rd"
          refine ⟨h, L, _, S.n - 1, _, p, by rw [show ((S.n - 1 : Nat) : Int) = (S.n : Int) - 1 by omega], g2.rep, f2, ho, fun L3 H3 g3 => ?_⟩
          have g3 := g2.trans g3
          walk_at "rd"
          exact k _ _ (by assumption)
        · walk_at "rd"
          refine rd_iteN (fun hz => ?_) (fun hz => ?_)
          · have e : Sa77.pass S = Sa77.St.put { S with token := none, black := false } (S.n - 1) (.token false 0) := by
              rw [e0, if_neg]
              rintro ⟨_, _, h3⟩
              rw [em, wrap_mod, (wrap_zero _).mp h3] at hz
              cases hz
            rw [e] at k
            walk_at "rd"
            refine ⟨false, 0, rfl, fun p H2 e2 f2 => ?_⟩
            have g2 := g1.ext e2
            walk_at "rd"
            refine ⟨h, L, _, S.n - 1, _, p, by rw [show ((S.n - 1 : Nat) : Int) = (S.n : Int) - 1 by omega], g2.rep, f2, ho, fun L3 H3 g3 => ?_⟩
            have g3 := g2.trans g3
            walk_at "rd"
            exact k _ _ (by assumption)
          · have hb1 : c = false := by cases c <;> first | rfl | cases hb
            have hb2 : S.black = false := by cases q : S.black with
              | false => rfl
              | true => rw [q] at hb; cases c <;> cases hb
            have e : Sa77.pass S = { S with token := none, found := true, black := false } := by
              rw [e0, if_pos ⟨hb1, hb2, (wrap_zero _).mpr (by rw [← wrap_mod, ← em]; simpa using hz)⟩, ← hb2]
            rw [e] at k
            walk_at "rd"
            exact k _ _ (by assumption)
def sp_Host_become_idle (A : Adr) : Sp := fun vs H Q _ => ∃ h L S, vs = [.ref h] ∧ Rep A h L H S ∧ S.out.length ≤ 1000 ∧ 1 ≤ S.n ∧ Post A h L S H Q (Sa77.pass { S with active := false })
theorem ok_Host_become_idle (T : Txt K mg A) : FnOk P w K mg base CX0 (4) A.f_Host_become_idle A.d_Host_become_idle ["self"] (sp_Host_become_idle A) := by
  refine T.m_Host_become_idle.fn.ok sc_Host_become_idle (fun vs H Q E h => ?_) (fun cdv A' outer s H vs Q E hr h => ?_)
  · obtain ⟨h, L, S, rfl, _⟩ := h
    rfl
  · obtain ⟨h, L, S, rfl, R, ho, hn, k⟩ := h
    have g := R.run
    refine ⟨_, (pss_cons (ps_fld (pv 0) pe_bl rfl)
      (pss_one (ps_expr (pe_meth0 (pv 0) T.cl_Host T.m_Host_pass_token.mt (ok_Host_pass_token T) (hr.mono (by decide)) T.m_Host_pass_token.bd .nil pass0)))), ?_⟩
    try dsimp only [cxOf, Cx.nox, Cx.wish]
    walk_at "rd"
    rename_i H1 g1
    refine ⟨h, L, _, rfl, g1.rep, ho, hn, fun L2 H2 g2 => ?_⟩
    walk_at "rd"
    exact k _ _ (g1.trans g2)
def sp_Host_watch (A : Adr) : Sp := fun vs H Q _ => ∃ h L S, vs = [.ref h] ∧ Rep A h L H S ∧ S.out.length ≤ 1000 ∧ 1 ≤ S.n ∧ Post A h L S H Q (Sa77.pass { S with watches := true, token := some (true, 0) })
theorem ok_Host_watch (T : Txt K mg A) : FnOk P w K mg base CX0 (4) A.f_Host_watch A.d_Host_watch ["self"] (sp_Host_watch A) := by
  refine T.m_Host_watch.fn.ok sc_Host_watch (fun vs H Q E h => ?_) (fun cdv A' outer s H vs Q E hr h => ?_)
  · obtain ⟨h, L, S, rfl, _⟩ := h
    rfl
  · obtain ⟨h, L, S, rfl, R, ho, hn, k⟩ := h
    have g := R.run
    refine ⟨_, (pss_cons (ps_fld (pv 0) pe_bl rfl)
      (pss_cons (ps_fld (pv 0) (pe_make T.mk_Token (ok_Token_init T) (hr.mono (by decide)) rfl T.mg_Token T.m_Token_init.bd .nil pass0 (pa_cons pe_bl (pa_cons pe_int pa_nil))) rfl)
      (pss_one (ps_expr (pe_meth0 (pv 0) T.cl_Host T.m_Host_pass_token.mt (ok_Host_pass_token T) (hr.mono (by decide)) T.m_Host_pass_token.bd .nil pass0))))), ?_⟩
    try dsimp only [cxOf, Cx.nox, Cx.wish]
    walk_at "rd"
    rename_i H1 g1
    intro x dx hx hd ne
    refine ⟨x, dx, true, 0, rfl, upd_same, rfl, ?_⟩
    rw [upd_upd]
    walk_at "rd"
    refine hp_token_new (c := true) (z := 0) T g1 hx hd ne fun L2 H2 g2 => ?_
    walk_at "rd"
    refine ⟨h, L2, _, rfl, g2.rep, ho, hn, fun L3 H3 g3 => ?_⟩
    walk_at "rd"
    exact k _ _ (g2.trans g3)
def sp_Host_token_comes (A : Adr) : Sp := fun vs H Q _ => ∃ h L S c z, vs = [.ref h, .bl c, .int (z % 4294967296)] ∧ Rep A h L H S ∧ S.out.length ≤ 1000 ∧ 1 ≤ S.n ∧ Post A h L S H Q (if S.token.isSome = true then S else Sa77.pass { S with token := some (c, z) })
theorem ok_Host_token_comes (T : Txt K mg A) : FnOk P w K mg base CX0 (4) A.f_Host_token_comes A.d_Host_token_comes ["self", "black", "total"] (sp_Host_token_comes A) := by
  refine T.m_Host_token_comes.fn.ok sc_Host_token_comes (fun vs H Q E h => ?_) (fun cdv A' outer s H vs Q E hr h => ?_)
  · obtain ⟨h, L, S, c, z, rfl, _⟩ := h
    rfl
  · obtain ⟨h, L, S, c, z, rfl, R, ho, hn, k⟩ := h
    have g := R.run
    refine ⟨_, (pss_one (ps_if (pt_cmpR op_isNR (pe_fld (pv 0) rfl) pe_non (nomark _)) (pss_cons (ps_fld (pv 0) (pe_make T.mk_Token (ok_Token_init T) (hr.mono (by decide)) rfl T.mg_Token T.m_Token_init.bd .nil pass0 (pa_cons (pv 1) (pa_cons (pv 2) pa_nil))) rfl)
      (pss_one (ps_expr (pe_meth0 (pv 0) T.cl_Host T.m_Host_pass_token.mt (ok_Host_pass_token T) (hr.mono (by decide)) T.m_Host_pass_token.bd .nil pass0)))) pss_nil)), ?_⟩
    try dsimp only [cxOf, Cx.nox, Cx.wish]
    walk_at "rd"
    rw [tokV_non]
    refine rd_ite (fun ht => ?_) (fun ht => ?_)
    · have hs : ¬ S.token.isSome = true := by cases q : S.token <;> simp_all
      rw [if_neg hs] at k
      walk_at "rd"
      intro x dx hx hd ne
      refine ⟨x, dx, c, _, rfl, upd_same, rfl, ?_⟩
      rw [upd_upd]
      walk_at "rd"
      refine hp_token_new (c := c) (z := z) T g hx hd ne fun L2 H2 g2 => ?_
      walk_at "rd"
      refine ⟨h, L2, _, rfl, g2.rep, ho, hn, fun L3 H3 g3 => ?_⟩
      walk_at "rd"
      exact k _ _ (g2.trans g3)
    · have hs : S.token.isSome = true := by cases q : S.token <;> simp_all
      rw [if_pos hs] at k
      walk_at "rd"
      exact k _ _ g
end
section
variable {P : Program} {w : World} {K : PySem.W.Frag} {mg : Str → Option Value} {base : Heap} {A : Adr}
def sp_Recording_init (A : Adr) : Sp := fun vs H Q _ => ∃ x dx num l D, vs = [.ref x, .int num, .ref l, .ref D] ∧ H x = some (.ins A.c_Recording dx []) ∧
  ∀ p H', H p = none → H' p = some (.lst []) → H' x = some (.ins A.c_Recording dx (fRecording { number_ := num, state_ := l, ways_ := D, works_ := p, too_much_ := false })) → (∀ a, a ≠ x → a ≠ p → H' a = H a) → Q .non H'
theorem ok_Recording_init (T : Txt K mg A) : FnOk P w K mg base CX0 (1) A.f_Recording_init A.d_Recording_init ["self", "number", "state", "ways"] (sp_Recording_init A) := by
  refine T.m_Recording_init.fn.ok sc_Recording_init (fun vs H Q E h => ?_) (fun cdv A' outer s H vs Q E hr h => ?_)
  · obtain ⟨x, dx, num, l, D, rfl, _⟩ := h
    rfl
  · obtain ⟨x, dx, num, l, D, rfl, hx, k⟩ := h
    refine ⟨_, (pss_cons (ps_fld (pv 0) (pv 1) rfl)
      (pss_cons (ps_fld (pv 0) (pv 2) rfl)
      (pss_cons (ps_fld (pv 0) (pv 3) rfl)
      (pss_cons (ps_fld (pv 0) (pe_lst pa_nil) rfl)
      (pss_one (ps_fld (pv 0) pe_bl rfl)))))), ?_⟩
    try dsimp only [cxOf, Cx.nox, Cx.wish]
    walk_at "rd"
    refine rd_kPut hx T.cl_Recording T.na_Recording_number (Nat.le_of_ble_eq_true rfl) ?_
    walk_at "rd"
    refine rd_kPut upd_same T.cl_Recording T.na_Recording_state (Nat.le_of_ble_eq_true rfl) ?_
    rw [upd_upd]
    walk_at "rd"
    refine rd_kPut upd_same T.cl_Recording T.na_Recording_ways (Nat.le_of_ble_eq_true rfl) ?_
    rw [upd_upd]
    walk_at "rd"
    rename_i p hp
    have hpx : x ≠ p := ne_of_none upd_same hp
    have hp0 : H p = none := upd_dom hp
    refine rd_kPut (by rw [upd_ne hpx]; exact upd_same) T.cl_Recording T.na_Recording_works (Nat.le_of_ble_eq_true rfl) ?_
    walk_at "rd"
    refine rd_kPut upd_same T.cl_Recording T.na_Recording_too_much (Nat.le_of_ble_eq_true rfl) ?_
    rw [upd_upd]
    walk_at "rd"
    refine k p _ hp0 (by rw [upd_ne (Ne.symm hpx), upd_same]) upd_same fun a h1 h2 => ?_
    rw [upd_ne h1, upd_ne h2, upd_ne h1]
def sp_Host_begin_recording (A : Adr) : Sp := fun vs H Q _ => ∃ (h : Addr) (L : Lay) (S : SS) (x num c : Nat), vs = [.ref h, .int x, .int num, .int c] ∧ Rep A h L H S ∧ recAt S x = none ∧ S.n ≤ 16 ∧ S.out.length ≤ 900 ∧ S.recs.length ≤ 16 ∧
  Post A h L S H Q (Sa77.St.toAll { S with recs := S.recs ++ [⟨x, num, S.state, S.others.filter (fun k => k != c), [], false⟩] } S.others (.marker x num))
theorem ok_Host_begin_recording (T : Txt K mg A) : FnOk P w K mg base CX0 (3) A.f_Host_begin_recording A.d_Host_begin_recording ["self", "who", "number", "closed"] (sp_Host_begin_recording A) := by
  refine T.m_Host_begin_recording.fn.ok sc_Host_begin_recording (fun vs H Q E h => ?_) (fun cdv A' outer s H vs Q E hr h => ?_)
  · obtain ⟨h, L, S, x, num, c, rfl, _⟩ := h
    rfl
  · obtain ⟨h, L, S, y, num, c, rfl, R, hn, h16, ho, hrl, k⟩ := h
    have g := R.run
    refine ⟨_, (pss_cons (ps_setLc (i := 4) rfl sc_Host_begin_recording.nd rfl rfl (sw_true rfl rfl rfl rfl) (pi_range1 rfl T.b_range (pa_cons (pe_fld (pv 0) rfl) pa_nil)) (blkOk_by (own := [("host", 5)]) (by kernel_rfl)) (fun _ _ _ _ _ => pg_name (i := 5) sc_Host_begin_recording.nd rfl (Or.inl rfl)) (fun _ _ _ _ _ => pts_nil) (fun _ _ _ _ _ => (pe_and (pe_cmpR op_ne (pv 5) (pe_fldK (K := K) rfl (pv 0) rfl) (nomark _)) (pe_one (pe_cmpR op_ne (pv 5) (pv 3) (nomark _))))))
      (pss_cons (ps_dput (hu_of hr) (pe_fld (pv 0) rfl) (pv 1) (pe_make T.mk_Recording (ok_Recording_init T) (hr.mono (by decide)) rfl T.mg_Recording T.m_Recording_init.bd .nil pass0 (pa_cons (pv 2) (pa_cons (pe_frz (pe_callTy call_listR (by rfl) T.b_list PySem.Pv.boot_list (pa_cons (pe_fld (pv 0) rfl) pa_nil))) (pa_cons (pv 4) pa_nil)))) rfl)
      (pss_one (ps_expr (pe_meth (pv 0) T.cl_Host T.m_Host_send_to_all.mt (ok_Host_send_to_all T) (hr.mono (by decide)) T.m_Host_send_to_all.bd .nil pass0 (pa_cons (pe_call (ok_marker_message T) (hr.mono (by decide)) rfl T.g_marker_message.mg T.g_marker_message.fn.kp T.g_marker_message.bd .nil pass0 (pa_cons (pv 1) (pa_cons (pv 2) pa_nil))) pa_nil)))))), ?_⟩
    try dsimp only [cxOf, Cx.nox, Cx.wish]
    walk_at "rd"
    refine rd_kRng h16 ?_
    intro D hD
    refine lc_range (n := S.n) (fun i H' => H' = upd H D (.lst ((List.range i).map fun k => V.bl ((k != S.me) && (k != c))))) rfl ?_ ?_
    · rintro i _ hi rfl
      have g1 := g.alloc (o := .lst ((List.range i).map fun k => V.bl ((k != S.me) && (k != c)))) hD
      walk_at "rd"
      refine ⟨rfl, ?_⟩
      have fin : ∀ y : Bool, y = ((i != S.me) && (i != c)) → ∃ acc, upd H D (.lst ((List.range i).map fun k => V.bl ((k != S.me) && (k != c)))) D = some (.lst acc) ∧ acc.length < sizeLine ∧
          upd (upd H D (.lst ((List.range i).map fun k => V.bl ((k != S.me) && (k != c))))) D (.lst (acc ++ [.bl y])) = upd H D (.lst ((List.range (i + 1)).map fun k => V.bl ((k != S.me) && (k != c)))) := fun y hy =>
        ⟨_, upd_same, by rw [List.length_map, List.length_range]; have := line_big; omega, by rw [upd_upd, List.range_succ, List.map_append, hy]; rfl⟩
      walk_at "rd"
      refine rd_iteN (fun h1 => ?_) (fun h1 => ?_)
      · have h1 : ¬ ((0 : Int) + (i : Int) = (S.me : Int)) := of_decide_eq_false h1
        walk_at "rd"
        refine fin _ ?_
        have e1 : (i != S.me) = true := by simp only [bne_iff_ne]; omega
        rw [e1, Bool.true_and]
        by_cases q : i = c
        · rw [decide_eq_true (show (0 : Int) + (i : Int) = (c : Int) by omega)]; simp [q]
        · rw [decide_eq_false (show ¬ (0 : Int) + (i : Int) = (c : Int) by omega)]; simp [q]
      · have h1 : (0 : Int) + (i : Int) = (S.me : Int) := of_decide_eq_true h1
        refine fin false ?_
        have e1 : (i != S.me) = false := by simp only [bne_eq_false_iff_eq]; omega
        rw [e1, Bool.false_and]
    rintro _ rfl
    walk_at "rd"
    have g1 := g.alloc (o := .lst ((List.range S.n).map fun k => V.bl ((k != S.me) && (k != c)))) hD
    walk_at "rd"
    refine rd_listF g1.rep.fz.st fun l hl => ?_
    refine rd_kFrzN fun od => ?_
    walk_at "rd"
    intro x dx hx hd ne
    refine ⟨x, dx, num, l, D, rfl, upd_same, fun p H1 np ep ex kp => ⟨rfl, ?_⟩⟩
    have hlD : l ≠ D := fun z => by rw [z, upd_same] at hl; cases hl
    have nD : H D = none := hD
    have nl : H l = none := upd_dom hl
    have nx : H x = none := upd_dom (upd_dom hx)
    have nd : H dx = none := upd_dom (upd_dom hd)
    have np0 : H p = none := upd_dom (upd_dom (upd_dom (upd_dom np)))
    have xl : x ≠ l := fun z => by rw [z, upd_same] at hx; cases hx
    have xD : x ≠ D := fun z => by rw [z, upd_ne (Ne.symm hlD), upd_same] at hx; cases hx
    have dl : dx ≠ l := fun z => by rw [z, upd_same] at hd; cases hd
    have dD : dx ≠ D := fun z => by rw [z, upd_ne (Ne.symm hlD), upd_same] at hd; cases hd
    have px : p ≠ x := fun z => by rw [z, upd_same] at np; cases np
    have pd : p ≠ dx := fun z => by rw [z, upd_ne ne, upd_same] at np; cases np
    have pl : p ≠ l := fun z => by rw [z, upd_ne (Ne.symm xl), upd_ne (Ne.symm dl), upd_same] at np; cases np
    have pD : p ≠ D := fun z => by rw [z, upd_ne (Ne.symm xD), upd_ne (Ne.symm dD), upd_ne (Ne.symm hlD), upd_same] at np; cases np
    have E1 : Ext H H1 := fun a o q => by
      rw [kp a (ne_of_none q nx) (ne_of_none q np0), upd_ne (ne_of_none q nx), upd_ne (ne_of_none q nd), upd_ne (ne_of_none q nl), upd_ne (ne_of_none q nD)]; exact q
    have eD : H1 D = some (.lst ((blB S.n (S.others.filter fun k => k != c)).map V.bl)) := by
      rw [kp D (Ne.symm xD) (Ne.symm pD), upd_ne (Ne.symm xD), upd_ne (Ne.symm dD), upd_ne (Ne.symm hlD), upd_same]
      show _ = some (HO.lst ((blB S.n (((List.range S.n).filter fun k => k != S.me).filter fun k => k != c)).map V.bl))
      rw [ways_blB, List.map_map]; rfl
    have el : Fz H1 l (byL S.state) := ⟨od, by rw [kp l (Ne.symm xl) (Ne.symm pl), upd_ne (Ne.symm xl), upd_ne (Ne.symm dl), upd_same]⟩
    have g2 := g.ext E1
    walk_at "rd"
    refine rc_dput g2 hrl ?_
    have g3 := g.rec_new hn E1 nx nD np0 ex eD ep el (Ne.symm pD)
    walk_at "rd"
    refine ⟨y, num, rfl, fun q H2 e2 f2 => ?_⟩
    have g4 := g3.ext e2
    walk_at "rd"
    refine ⟨h, _, _, _, q, rfl, g4.rep, f2, ho, h16, fun L5 H5 g5 => ?_⟩
    walk_at "rd"
    exact k _ _ (g4.trans g5)
def sp_Host_begin_cut (A : Adr) : Sp := fun vs H Q _ => ∃ h L S, vs = [.ref h] ∧ Rep A h L H S ∧ recAt S S.me = none ∧ S.n ≤ 16 ∧ S.out.length ≤ 900 ∧ S.recs.length ≤ 16 ∧
  Post A h L S H Q (Sa77.St.toAll { S with num := S.num + 1, parts := [], recs := S.recs ++ [⟨S.me, S.num + 1, S.state, S.others, [], false⟩] } S.others (.marker S.me (S.num + 1)))
theorem ok_Host_begin_cut (T : Txt K mg A) : FnOk P w K mg base CX0 (4) A.f_Host_begin_cut A.d_Host_begin_cut ["self"] (sp_Host_begin_cut A) := by
  refine T.m_Host_begin_cut.fn.ok sc_Host_begin_cut (fun vs H Q E h => ?_) (fun cdv A' outer s H vs Q E hr h => ?_)
  · obtain ⟨h, L, S, rfl, _⟩ := h
    rfl
  · obtain ⟨h, L, S, rfl, R, hn, h16, ho, hrl, k⟩ := h
    have g := R.run
    refine ⟨_, (pss_cons (ps_fld (pv 0) (pe_op op_add (pe_fld (pv 0) rfl) pe_int) rfl)
      (pss_cons (ps_fld (pv 0) pe_dnewK rfl)
      (pss_one (ps_expr (pe_meth (pv 0) T.cl_Host T.m_Host_begin_recording.mt (ok_Host_begin_recording T) (hr.mono (by decide)) T.m_Host_begin_recording.bd .nil pass0 (pa_cons (pe_fld (pv 0) rfl) (pa_cons (pe_fld (pv 0) rfl) (pa_cons (pe_fld (pv 0) rfl) pa_nil)))))))), ?_⟩
    try dsimp only [cxOf, Cx.nox, Cx.wish]
    walk_at "rd"
    refine hp_cut_number (k := S.num + 1) T g rfl fun H1 g1 => ?_
    walk_at "rd"
    intro x hx
    walk_at "rd"
    have g1a := g1.alloc (o := .dK []) hx
    refine hp_records_new T g1 hx fun L2 H2 g2 => ?_
    walk_at "rd"
    refine ⟨h, L2, _, S.me, S.num + 1, S.me, rfl, g2.rep, hn, h16, ho, hrl, fun L3 H3 g3 => ?_⟩
    walk_at "rd"
    refine k L3 H3 ?_
    have g4 := g2.trans g3
    have e : Sa77.St.others { S with num := S.num + 1, parts := [] } = S.others := rfl
    rw [e, filter_me] at g4
    exact g4
end
theorem upd_comm {H : Hp} {a b : Addr} {x y : HO} (h : a ≠ b) : upd (upd H a x) b y = upd (upd H b y) a x := by
  funext c
  by_cases h1 : c = b
  · subst h1; rw [upd_same, upd_ne (Ne.symm h), upd_same]
  · rw [upd_ne h1]
    by_cases h2 : c = a
    · subst h2; rw [upd_same, upd_same]
    · rw [upd_ne h2, upd_ne h2, upd_ne h1]
theorem upd_self {H : Hp} {a : Addr} {x : HO} (h : H a = some x) : upd H a x = H := by
  funext c
  by_cases h1 : c = a
  · subst h1; rw [upd_same, h]
  · rw [upd_ne h1]
theorem for_vals {d : Addr} {o : Obj} {kvs : List (Key × V)} {g : TG} {tb : TS} {D : Ends} {σ : L2.St} {H : Hp} (Pv : Nat → L2.St → Hp → Prop) (h0 : Pv 0 σ H) (hl : ∀ i σ H, Pv i σ H → H d = some (.frz o (.dK kvs)))
    (hs : ∀ i k x σ H, kvs[i]? = some (k, x) → Pv i σ H → g x σ H fun σ2 H2 => tb { D with nx := Pv (i + 1), ct := Pv (i + 1), bk := D.nx } σ2 H2) (hd : ∀ σ H, Pv kvs.length σ H → D.nx σ H) :
    ∃ W : Nat → Nat → L2.St → Hp → Prop, (∃ m, W 0 m σ H) ∧ ∀ i m σ H, W i m σ H →
      ((Itd d o kvs).stop i H ∧ D.nx σ H) ∨ ((Itd d o kvs).go i H ∧ ∃ N : L2.St → Hp → Prop, (∀ σ' H', N σ' H' → ∃ m', m' < m ∧ W (i + 1) m' σ' H') ∧ ∀ x H', (Itd d o kvs).yld i H x H' → g x σ H' fun σ2 H2 => tb { D with nx := N, ct := N, bk := D.nx } σ2 H2) := by
  refine ⟨fun i m σ H => m = kvs.length - i ∧ i ≤ kvs.length ∧ Pv i σ H, ⟨kvs.length, by simp, Nat.zero_le _, h0⟩, ?_⟩
  rintro i m σ H ⟨rfl, hi, p⟩
  have q := hl i σ H p
  by_cases hlt : i < kvs.length
  · refine .inr ⟨⟨q, hlt⟩, Pv (i + 1), fun σ' H' p' => ⟨kvs.length - (i + 1), by omega, rfl, hlt, p'⟩, fun x H' y => ?_⟩
    obtain ⟨e, k, y⟩ := y
    subst e
    exact hs i k x σ _ y p
  · have e : i = kvs.length := by omega
    subst e
    exact .inl ⟨⟨q, Nat.le_refl _⟩, hd σ H p⟩
theorem rd_ilist {K : PySem.W.Frag} {te : TE} {σ : L2.St} {H : Hp} {R : It → Hp → Prop} {a : Addr} {xs : List V} (q : te σ H fun x H1 => x = .ref a ∧ SqL K H1 a xs ∧ R (Itl K a) H1) (mono : ∀ Q1 Q2 : VK, (∀ v H, Q1 v H → Q2 v H) → te σ H Q1 → te σ H Q2) : iList K te σ H R :=
  mono _ _ (fun v H1 ⟨h1, h2, h3⟩ => ⟨a, h1, ⟨xs, h2⟩, h3⟩) q
theorem rd_IxT {K : PySem.W.Frag} {H : Hp} {Q : VK} {a : Addr} {xs : List V} {v : V} {n : Nat} (e : H a = some (.tup xs)) (g : xs[n]? = some v) (h : Q v H) : rIxT K (.ref a) (.int (n : Nat)) H Q := ⟨a, xs, n, v, rfl, rfl, .inl (.inl e), atI_nat g, h⟩
section
variable {P : Program} {w : World} {K : PySem.W.Frag} {mg : Str → Option Value} {base : Heap} {A : Adr}
def rbTo (m : Bool) (s : List Nat) (g : List Sa77.Work) (i : Nat) : List Nat := Sa77.bit m :: s.length :: (s ++ (g.length :: (g.take i).flatMap fun (x : Sa77.Work) => x.1 :: x.2.length :: x.2))
theorem rbTo_succ {m : Bool} {s : List Nat} {g : List Sa77.Work} {i : Nat} {x : Sa77.Work} (h : g[i]? = some x) : rbTo m s g (i + 1) = rbTo m s g i ++ (x.1 :: x.2.length :: x.2) := by
  unfold rbTo
  rw [List.take_add_one, h]
  simp
theorem rbTo_len {m : Bool} {s : List Nat} {g : List Sa77.Work} (h1 : s.length ≤ 64) (h2 : g.length ≤ 64) (h3 : ∀ x ∈ g, x.2.length ≤ 64) (i : Nat) : (rbTo m s g i).length ≤ 5000 := by
  unfold rbTo
  have := flat_len (g.take i) fun x hx => h3 x (List.mem_of_mem_take hx)
  have h4 : (g.take i).length ≤ g.length := by rw [List.length_take]; omega
  simp only [List.length_append, List.length_cons]
  omega
def sp_record_bytes (_ : Adr) : Sp := fun vs H Q _ => ∃ (m : Bool) (a b : Addr) (s : List Nat) (g : List Sa77.Work) (us : List V), vs = [.bl m, .ref a, .ref b] ∧ Fz H a (byL s) ∧ H b = some (.lst us) ∧ Prs H us (g.map inB) ∧ s.length ≤ 64 ∧ g.length ≤ 64 ∧ (∀ x ∈ g, x.2.length ≤ 64) ∧ NewB H Q (byL (Sa77.recordBytes m s g))
theorem ok_record_bytes (T : Txt K mg A) : FnOk P w K mg base CX0 (1) A.f_record_bytes A.d_record_bytes ["too_much", "state", "works"] (sp_record_bytes A) := by
  refine T.g_record_bytes.fn.ok sc_record_bytes (fun vs H Q E h => ?_) (fun cdv A' outer s H vs Q E hr h => ?_)
  · obtain ⟨m, a, b, s, g, us, rfl, _⟩ := h
    rfl
  · obtain ⟨m, a, b, s, g, us, rfl, ha, hb, hg, l1, l2, l3, k⟩ := h
    have hul : us.length = g.length := by have := pd_len hg; rw [List.length_map] at this; exact this
    refine ⟨_, (pss_cons (ps_set (i := 3) sc_record_bytes.nd rfl (Or.inl rfl) (pe_op op_catR (pe_op op_catR (pe_lst (pa_cons (pe_ifExp (pt_val (pv 0)) pe_int pe_int) (pa_cons (pe_callB call_lenR (by rfl) T.b_len PySem.boot_len (pa_cons (pv 1) pa_nil)) pa_nil))) (pv 1)) (pe_lst (pa_cons (pe_callB call_lenR (by rfl) T.b_len PySem.boot_len (pa_cons (pv 2) pa_nil)) pa_nil))))
      (pss_cons (ps_for PassesOwn.never rfl (pi_list (pv 2)) (pg_name (i := 4) sc_record_bytes.nd rfl (Or.inl rfl)) (pss_one (ps_expr (pe_bm PySem.F.plainAttrs_list PySem.F.slot_list_extend PySem.F.type_list_extend mt_extendR (pv 3) (pa_cons (pe_op op_catR (pe_lst (pa_cons (pe_ix ix_tup (pv 4) pe_int (fun _ _ => rfl)) (pa_cons (pe_callB call_lenR (by rfl) T.b_len PySem.boot_len (pa_cons (pe_ix ix_tup (pv 4) pe_int (fun _ _ => rfl)) pa_nil)) pa_nil))) (pe_ix ix_tup (pv 4) pe_int (fun _ _ => rfl))) pa_nil)))))
      (pss_one (ps_ret (pe_frz (pv 3)))))), ?_⟩
    try dsimp only [cxOf, Cx.nox, Cx.wish]
    walk_at "rd"
    rename_i p1 hp1
    refine rd_cat (.inl upd_same) (ha.mono (.alloc hp1)).rd ?_ fun p2 hp2 => ?_
    · rw [map_len, ints_len]; have := line_big; simp only [List.length_cons, List.length_nil]; omega
    walk_at "rd"
    refine rd_lenL (xs := us) (Ext.alloc hp2 _ _ (Ext.alloc hp1 _ _ hb)) ?_
    walk_at "rd"
    rename_i p3 hp3
    refine rd_cat (.inl (by rw [upd_ne (ne_of_none upd_same hp3)]; exact upd_same)) (.inl upd_same) ?_ fun p4 hp4 => ?_
    · rw [List.length_append, map_len, ints_len]; have := line_big; simp only [List.length_cons, List.length_nil]; omega
    have E4 := fun o => (((Ext.alloc hp1).trans (Ext.alloc hp2)).trans (Ext.alloc hp3)).trans (Ext.alloc (o := o) hp4)
    have n4 : H p4 = none := upd_dom (upd_dom (upd_dom hp4))
    walk_at "rd"
    refine rd_ilist (a := b) (xs := us) ?_ (fun Q1 Q2 hq h => by obtain ⟨v, h1, h2⟩ := h; exact ⟨v, h1, hq _ _ h2⟩)
    walk_at "rd"
    refine ⟨rfl, SqL.of (E4 _ _ _ hb), ?_⟩
    refine for_list (xs := us) (fun i σ' H' => ∃ x, σ' = [some (.bl m), some (.ref a), some (.ref b), some (.ref p4), x] ∧ Ext H H' ∧ H' p4 = some (.lst ((byL (rbTo m s g i)).map V.int))) ?_ ?_ ?_ ?_
    · refine ⟨none, rfl, E4 _, ?_⟩
      rw [upd_same, hul]
      simp [rbTo, byL, Sa77Neutral.ints]
    · rintro i σ' H' _ ⟨x, _, e1, _⟩
      exact SqL.of (e1 _ _ hb)
    · rintro i v σ' H' hv ⟨x, rfl, e1, e2⟩
      obtain ⟨pr, h1, t, c, rfl, h2, h3⟩ := paired_get hg hv
      rw [List.getElem?_map] at h1
      obtain ⟨y, hy, rfl⟩ : ∃ y, g[i]? = some y ∧ inB y = pr := by
        cases q : g[i]? with
        | none => rw [q] at h1; cases h1
        | some y => rw [q] at h1; exact ⟨y, rfl, Option.some.inj h1⟩
      have ly := l3 y (List.mem_of_getElem? hy)
      have h2' := e1 _ _ h2
      have h3' : Fz H' c (byL y.2) := h3.mono e1.mono
      walk_at "rd"
      refine rd_kBM (SqL.of e2) ?_
      walk_at "rd"
      refine rd_IxT (n := 0) h2' rfl ?_
      walk_at "rd"
      refine rd_IxT (n := 1) h2' rfl ?_
      walk_at "rd"
      rename_i q1 hq1
      refine rd_IxT (n := 1) (Ext.alloc hq1 _ _ h2') rfl ?_
      refine rd_cat (.inl upd_same) (h3'.mono (.alloc hq1)).rd ?_ fun q2 hq2 => ?_
      · rw [map_len, ints_len]; have := line_big; simp only [List.length_cons, List.length_nil]; omega
      walk_at "rd"
      have n4' : ∀ c o, H c = some o → c ≠ p4 := fun c o q => ne_of_none q n4
      refine rd_ext (Ext.alloc hq2 _ _ (Ext.alloc hq1 _ _ e2)) (.inl upd_same) ?_ ?_
      · rw [List.length_append, map_len, map_len, ints_len, ints_len]; have := line_big; have := rbTo_len (m := m) l1 l2 l3 i; simp only [List.length_cons, List.length_nil]; omega
      walk_at "rd"
      refine ⟨_, rfl, fun c o q => by rw [upd_ne (n4' c o q)]; exact Ext.alloc hq2 _ _ (Ext.alloc hq1 _ _ (e1 _ _ q)), ?_⟩
      rw [upd_same, rbTo_succ hy]
      simp [byL, Sa77Neutral.ints, inB]
    · rintro σ' H' ⟨x, rfl, e1, e2⟩
      walk_at "rd"
      refine rd_kFrz e2 trivial fun od => ?_
      walk_at "rd"
      refine k p4 _ (fun c o q => by rw [upd_ne (ne_of_none q n4)]; exact e1 _ _ q) ⟨od, ?_⟩
      rw [upd_same, hul]
      unfold rbTo
      rw [List.take_length]
      rfl
def sp_Recording_put_work (A : Adr) : Sp := fun vs H Q _ => ∃ (x dx : Addr) (f : FRecording) (us : List V) (j : Nat) (b : Addr), vs = [.ref x, .int j, .ref b] ∧ H x = some (.ins A.c_Recording dx (fRecording f)) ∧ H f.works_ = some (.lst us) ∧
  (us.length < 64 → ∀ p, H p = none → Q .non (upd (upd H p (.tup [.int j, .ref b])) f.works_ (.lst (us ++ [.ref p])))) ∧ (¬ us.length < 64 → Q .non (upd H x (.ins A.c_Recording dx (fRecording { f with too_much_ := true }))))
theorem ok_Recording_put_work (T : Txt K mg A) : FnOk P w K mg base CX0 (1) A.f_Recording_put_work A.d_Recording_put_work ["self", "sender", "row"] (sp_Recording_put_work A) := by
  refine T.m_Recording_put_work.fn.ok sc_Recording_put_work (fun vs H Q E h => ?_) (fun cdv A' outer s H vs Q E hr h => ?_)
  · obtain ⟨x, dx, f, us, j, b, rfl, _⟩ := h
    rfl
  · obtain ⟨x, dx, f, us, j, b, rfl, hx, hw, k1, k2⟩ := h
    refine ⟨_, (pss_one (ps_if (pt_cmpR op_lt (pe_callB call_lenR (by rfl) T.b_len PySem.boot_len (pa_cons (pe_fld (pv 0) rfl) pa_nil)) (pe_glob (v := .int (64)) rfl T.k_MOST_WORKS ⟨_, rfl⟩) (nomark _)) (pss_one (ps_expr (pe_bm PySem.F.plainAttrs_list PySem.F.slot_list_append PySem.F.type_list_append mt_append (pe_fld (pv 0) rfl) (pa_cons (pe_tup (pa_cons (pv 1) (pa_cons (pv 2) pa_nil))) pa_nil)))) (pss_one (ps_fld (pv 0) pe_bl rfl)))), ?_⟩
    try dsimp only [cxOf, Cx.nox, Cx.wish]
    walk_at "rd"
    refine g_Recording_works T ⟨_, _, hx, ?_⟩
    walk_at "rd"
    refine rd_lenL hw ?_
    walk_at "rd"
    refine rd_iteD (fun hc => ?_) (fun hc => ?_)
    · walk_at "rd"
      refine g_Recording_works T ⟨_, _, hx, ?_⟩
      refine rd_kBM (SqL.of hw) ?_
      walk_at "rd"
      rename_i p hp
      refine rd_app (Ext.alloc hp _ _ hw) (by have := line_big; omega) ?_
      walk_at "rd"
      exact k1 (by omega) p hp
    · walk_at "rd"
      refine p_Recording_too_much T ⟨_, _, hx, ?_⟩
      walk_at "rd"
      exact k2 (by omega)
end
section
variable {P : Program} {w : World} {K : PySem.W.Frag} {mg : Str → Option Value} {base : Heap} {A : Adr}
def OwnOk (S : SS) (r : Sa77.Rec) : Prop := r.who = S.me → r.num = S.num ∧ S.num ≠ 0 ∧ ∀ p ∈ S.parts, p.host ≠ S.me
def sp_Host_end_recording_if_done (A : Adr) : Sp := fun vs H Q _ => ∃ (h : Addr) (L : Lay) (S : SS) (r : Sa77.Rec), vs = [.ref h, .int (r.who : Int)] ∧ Rep A h L H S ∧ recAt S r.who = some r ∧ WfR S.n r ∧ OwnOk S r ∧ S.out.length ≤ 1000 ∧ S.parts.length ≤ 15 + 1 ∧ Post A h L S H Q (Sa77.close S r.who)
theorem ok_Host_end_recording_if_done (T : Txt K mg A) : FnOk P w K mg base CX0 (3) A.f_Host_end_recording_if_done A.d_Host_end_recording_if_done ["self", "who"] (sp_Host_end_recording_if_done A) := by
  refine T.m_Host_end_recording_if_done.fn.ok sc_Host_end_recording_if_done (fun vs H Q E h => ?_) (fun cdv A' outer s H vs Q E hr h => ?_)
  · obtain ⟨h, L, S, r, rfl, _⟩ := h
    rfl
  · obtain ⟨h, L, S, r, rfl, R, e, wr, own, ho, hpl, k⟩ := h
    have g := R.run
    rw [close_eq e] at k
    refine ⟨_, (pss_cons (ps_set (i := 2) sc_Host_end_recording_if_done.nd rfl (Or.inl rfl) (pe_dget (hu_of hr) (pe_fld (pv 0) rfl) (pv 1) (fun _ _ => rfl)))
      (pss_cons (ps_if (pt_val (pe_callB (cr_any rfl) (by rfl) T.b_any PyProof.Rows.boot_any (pa_cons (pe_fld (pv 2) rfl) pa_nil))) (pss_one ps_retN) pss_nil)
      (pss_cons (ps_expr (pe_dpop1 (pe_fld (pv 0) rfl) (pv 1) ⟨rfl, rfl, rfl, rfl⟩))
      (pss_cons (ps_set (i := 3) sc_Host_end_recording_if_done.nd rfl (Or.inl rfl) (pe_call (ok_record_bytes T) (hr.mono (by decide)) rfl T.g_record_bytes.mg T.g_record_bytes.fn.kp T.g_record_bytes.bd .nil pass0 (pa_cons (pe_fld (pv 2) rfl) (pa_cons (pe_fld (pv 2) rfl) (pa_cons (pe_fld (pv 2) rfl) pa_nil)))))
      (pss_one (ps_if (pt_cmpR op_eq (pv 1) (pe_fld (pv 0) rfl) (nomark _)) (pss_one (ps_dput (hu_of hr) (pe_fld (pv 0) rfl) (pv 1) (pv 3) rfl)) (pss_one (ps_expr (pe_meth (pv 0) T.cl_Host T.m_Host_send.mt (ok_Host_send T) (hr.mono (by decide)) T.m_Host_send.bd .nil pass0 (pa_cons (pv 1) (pa_cons (pe_call (ok_record_message T) (hr.mono (by decide)) rfl T.g_record_message.mg T.g_record_message.fn.kp T.g_record_message.bd .nil pass0 (pa_cons (pe_fld (pv 2) rfl) (pa_cons (pv 3) pa_nil))) pa_nil))))))))))), ?_⟩
    try dsimp only [cxOf, Cx.nox, Cx.wish]
    walk_at "rd"
    refine rc_dget g e ?_
    walk_at "rd"
    refine g_Recording_ways T ⟨_, _, g.rcd e, ?_⟩
    walk_at "rd"
    refine ⟨_, blB S.n r.ways, rfl, SqL.of (g.rway e), ?_⟩
    rw [blB_any wr.ways]
    walk_at "rd"
    refine rd_ite (fun hc => ?_) (fun hc => ?_)
    · walk_at "rd"
      rw [if_pos (by simpa using hc)] at k
      exact k _ _ g
    rw [if_neg (by simpa using hc)] at k
    walk_at "rd"
    refine rc_dpop g e ?_ (fun Q1 Q2 hq h => by obtain ⟨v, h1, h2⟩ := h; exact ⟨v, h1, hq _ _ h2⟩)
    walk_at "rd"
    refine ⟨rfl, rfl, ?_⟩
    have g1 := g.rec_drop r.who
    have nr : ∀ t, onT S t → t ≠ .recordings → L.ad t ≠ L.ad .recordings := fun t on q z => q (g.rep.inj t .recordings on trivial z)
    have e1 : upd H (L.ad .recordings) (.dK (dropK (S.recs.map fun r => ((Sum.inl (r.who : Int) : Key), V.ref (L.ad (.rcd r.who)))) (.inl (r.who : Int)))) (L.ad (.rcd r.who)) = some (.ins A.c_Recording (L.rdx r.who) (fRecording (recF L r))) := by
      rw [upd_ne (nr _ (onR e).1 (fun z => nomatch z))]; exact g.rcd e
    have e2 : upd H (L.ad .recordings) (.dK (dropK (S.recs.map fun r => ((Sum.inl (r.who : Int) : Key), V.ref (L.ad (.rcd r.who)))) (.inl (r.who : Int)))) (L.ad (.rwrk r.who)) = some (.lst (L.rvs r.who)) := by
      rw [upd_ne (nr _ (onR e).2.2 (fun z => nomatch z))]; exact g.rwrk e
    have mo : Mono H (upd H (L.ad .recordings) (.dK (dropK (S.recs.map fun r => ((Sum.inl (r.who : Int) : Key), V.ref (L.ad (.rcd r.who)))) (.inl (r.who : Int))))) := g1.fr.mono
    generalize upd H (L.ad .recordings) (.dK (dropK (S.recs.map fun r => ((Sum.inl (r.who : Int) : Key), V.ref (L.ad (.rcd r.who)))) (.inl (r.who : Int)))) = H1 at g1 e1 e2 mo ⊢
    walk_at "rd"
    refine g_Recording_too_much T ⟨_, _, e1, ?_⟩
    walk_at "rd"
    refine g_Recording_state T ⟨_, _, e1, ?_⟩
    walk_at "rd"
    refine g_Recording_works T ⟨_, _, e1, ?_⟩
    walk_at "rd"
    refine ⟨r.much, _, _, r.state, r.got, L.rvs r.who, rfl, (g.rep.fz.rst _ _ e).mono mo, e2, (g.rep.fz.rvs _ _ e).mono mo, wr.st, wr.got, wr.gb, fun p H2 E2 f2 => ?_⟩
    have g2 := g1.ext E2
    have rl := rb_len (m := r.much) wr.st wr.got wr.gb
    walk_at "rd"
    refine rd_iteD (fun hm => ?_) (fun hm => ?_)
    · have hm' : r.who = S.me := by have : (r.who : Int) = (S.me : Int) := hm; omega
      obtain ⟨o1, o2, o3⟩ := own hm'
      rw [if_pos hm', gather_yes (S := { S with recs := S.recs.filter fun q => q.who != r.who }) o1 o2 (part_none o3)] at k
      walk_at "rd"
      rw [hm]
      refine rs_dput (p := ⟨S.me, r.much, r.state, r.got⟩) g2 hpl (part_none o3) f2 fun L3 H3 g3 => ?_
      walk_at "rd"
      exact k _ _ g3
    · have hm' : ¬ r.who = S.me := by intro z; apply hm; show (r.who : Int) = (S.me : Int); omega
      rw [if_neg hm'] at k
      walk_at "rd"
      refine g_Recording_number T ⟨_, _, E2 _ _ e1, ?_⟩
      walk_at "rd"
      refine ⟨r.num, p, r.much, r.state, r.got, rfl, f2, by omega, fun q H3 E3 f3 => ?_⟩
      have g3 := g2.ext E3
      walk_at "rd"
      refine ⟨h, L, _, r.who, _, q, rfl, g3.rep, f3, ho, fun L4 H4 g4 => ?_⟩
      walk_at "rd"
      exact k _ _ (g3.trans g4)
def sp_Host_marker_comes (A : Adr) : Sp := fun vs H Q _ => ∃ (h : Addr) (L : Lay) (S : SS) (j x num : Nat), vs = [.ref h, .int j, .int x, .int num] ∧ Rep A h L H S ∧ Wf 600 S ∧ j < S.n ∧ x < S.n ∧ Post A h L S H Q (Sa77.marker S j x num)
theorem ok_Host_marker_comes (T : Txt K mg A) : FnOk P w K mg base CX0 (4) A.f_Host_marker_comes A.d_Host_marker_comes ["self", "sender", "who", "number"] (sp_Host_marker_comes A) := by
  refine T.m_Host_marker_comes.fn.ok sc_Host_marker_comes (fun vs H Q E h => ?_) (fun cdv A' outer s H vs Q E hr h => ?_)
  · obtain ⟨h, L, S, j, x, num, rfl, _⟩ := h
    rfl
  · obtain ⟨h, L, S, j, x, num, rfl, R, wf, hj, hx, k⟩ := h
    have g := R.run
    have ho := wf.out
    have hpl := parts_len wf
    refine ⟨_, (pss_one (ps_if (pt_cmp (pc_din (hu_of hr) (pv 2) (pe_fld (pv 0) rfl))) (pss_cons (ps_set (i := 4) sc_Host_marker_comes.nd rfl (Or.inl rfl) (pe_dget (hu_of hr) (pe_fld (pv 0) rfl) (pv 2) (fun _ _ => rfl)))
      (pss_one (ps_if (pt_cmpR op_eq (pe_fld (pv 4) rfl) (pv 3) (nomark _)) (pss_cons (ps_asg pe_bl (pg_sub (pe_fld (pv 4) rfl) (pv 1) set_list))
      (pss_one (ps_expr (pe_meth (pv 0) T.cl_Host T.m_Host_end_recording_if_done.mt (ok_Host_end_recording_if_done T) (hr.mono (by decide)) T.m_Host_end_recording_if_done.bd .nil pass0 (pa_cons (pv 2) pa_nil))))) pss_nil))) (pss_one (ps_if (pt_cmpR op_ne (pv 2) (pe_fld (pv 0) rfl) (nomark _)) (pss_cons (ps_expr (pe_meth (pv 0) T.cl_Host T.m_Host_begin_recording.mt (ok_Host_begin_recording T) (hr.mono (by decide)) T.m_Host_begin_recording.bd .nil pass0 (pa_cons (pv 2) (pa_cons (pv 3) (pa_cons (pv 1) pa_nil)))))
      (pss_one (ps_expr (pe_meth (pv 0) T.cl_Host T.m_Host_end_recording_if_done.mt (ok_Host_end_recording_if_done T) (hr.mono (by decide)) T.m_Host_end_recording_if_done.bd .nil pass0 (pa_cons (pv 2) pa_nil))))) pss_nil)))), ?_⟩
    try dsimp only [cxOf, Cx.nox, Cx.wish]
    walk_at "rd"
    cases e : recAt S x with
    | some r =>
      obtain rfl := recAt_who e
      have hm := recAt_mem e
      have k' : Post A h L S H Q (if r.num = num then Sa77.close (setR S r.who (fWay j)) r.who else S) := by
        unfold Sa77.marker at k
        rw [show S.recs.find? (fun q => q.who == r.who) = some r from e] at k
        exact k
      rw [show (some r).isSome = true from rfl]
      walk_at "rd"
      refine rc_dget g e ?_
      walk_at "rd"
      refine g_Recording_number T ⟨_, _, g.rcd e, ?_⟩
      walk_at "rd"
      refine rd_iteD (fun hc => ?_) (fun hc => ?_)
      · have hc' : r.num = num := by have : (r.num : Int) = (num : Int) := hc; omega
        rw [if_pos hc'] at k'
        walk_at "rd"
        refine g_Recording_ways T ⟨_, _, g.rcd e, ?_⟩
        walk_at "rd"
        refine ⟨L.ad (.rway r.who), _, _, j, rfl, rfl, g.rway e, by rw [List.length_map, blB_len]; exact ixN_nat hj, ?_⟩
        have g1 := g.rec_way e j
        have e1 : recAt (setR S r.who (fWay j)) r.who = some { r with ways := r.ways.filter fun k => k != j } := by
          rw [recAt_set S r.who r.who (fWay j) (fWay_who j), if_pos rfl, e]; rfl
        have wr := wf.rc r hm
        walk_at "rd"
        refine ⟨h, L, _, { r with ways := r.ways.filter fun k => k != j }, rfl, g1.rep, e1, { wr with ways := fun k hk => wr.ways k (List.mem_filter.mp hk).1 }, fun z => wf.own r hm z, by show S.out.length ≤ 1000; omega, hpl, fun L2 H2 g2 => ?_⟩
        walk_at "rd"
        exact k' _ _ (g1.trans g2)
      · have hc' : ¬ r.num = num := by intro z; apply hc; show (r.num : Int) = (num : Int); omega
        rw [if_neg hc'] at k'
        walk_at "rd"
        exact k' _ _ g
    | none =>
      have k' : Post A h L S H Q (if x = S.me then S else Sa77.record S x num (S.others.filter fun k => k != j)) := by
        unfold Sa77.marker at k
        rw [show S.recs.find? (fun q => q.who == x) = none from e] at k
        exact k
      rw [show (none : Option Sa77.Rec).isSome = false from rfl]
      walk_at "rd"
      refine rd_iteN (fun hc => ?_) (fun hc => ?_)
      · have hc' : ¬ x = S.me := by intro z; rw [z] at hc; simp at hc
        rw [if_neg hc'] at k'
        walk_at "rd"
        refine ⟨h, L, S, x, num, j, rfl, g.rep, e, wf.n16, by omega, recs_len wf, fun L1 H1 g1 => ?_⟩
        walk_at "rd"
        refine ⟨h, L1, _, ⟨x, num, S.state, S.others.filter (fun k => k != j), [], false⟩, rfl, g1.rep, ?_, ⟨hx, fun k hk => others_lt (List.mem_filter.mp hk).1, wf.st, Nat.zero_le _, fun g hg => nomatch hg⟩, fun z => absurd z hc', ?_, hpl, fun L2 H2 g2 => ?_⟩
        · show recAt { S with recs := S.recs ++ [_] } x = _
          rw [recAt_snoc rfl e, if_pos rfl]
        · have := toAll_len { S with recs := S.recs ++ [⟨x, num, S.state, S.others.filter (fun k => k != j), [], false⟩] } (.marker x num) (fun k => k != S.me) S.n
          have h2 : (Sa77.St.toAll { S with recs := S.recs ++ [⟨x, num, S.state, S.others.filter (fun k => k != j), [], false⟩] } S.others (.marker x num)).out.length ≤ S.out.length + S.n := this
          have := wf.n16
          omega
        walk_at "rd"
        exact k' _ _ (g1.trans g2)
      · have hc' : x = S.me := by have : (x : Int) = (S.me : Int) := by simpa using hc
                                  omega
        rw [if_pos hc'] at k'
        walk_at "rd"
        exact k' _ _ g
def sp_Host_record_comes (A : Adr) : Sp := fun vs H Q _ => ∃ (h : Addr) (L : Lay) (S : SS) (j num : Nat) (b : Addr) (m : Bool) (st : List Nat) (gt : List Sa77.Work), vs = [.ref h, .int j, .int num, .ref b] ∧ Rep A h L H S ∧ Fz H b (byL (Sa77.recordBytes m st gt)) ∧ S.parts.length ≤ 16 ∧ Post A h L S H Q (Sa77.gather S ⟨j, m, st, gt⟩ num)
theorem ok_Host_record_comes (T : Txt K mg A) : FnOk P w K mg base CX0 (1) A.f_Host_record_comes A.d_Host_record_comes ["self", "sender", "number", "record"] (sp_Host_record_comes A) := by
  refine T.m_Host_record_comes.fn.ok sc_Host_record_comes (fun vs H Q E h => ?_) (fun cdv A' outer s H vs Q E hr h => ?_)
  · obtain ⟨h, L, S, j, num, b, m, st, gt, rfl, _⟩ := h
    rfl
  · obtain ⟨h, L, S, j, num, b, m, st, gt, rfl, R, hb, hpl, k⟩ := h
    have g := R.run
    have no : ¬ (num = S.num ∧ S.num ≠ 0 ∧ S.parts.find? (fun q => q.host == j) = none) → Post A h L S H Q S := fun z => by
      rw [gather_no (p := ⟨j, m, st, gt⟩) z] at k; exact k
    refine ⟨_, (pss_one (ps_if (PW.pt (pw_and (pt_cmpR op_gt (pe_fld (pv 0) rfl) pe_int (nomark _)) (pw_and (pt_cmpR op_eq (pv 2) (pe_fld (pv 0) rfl) (nomark _)) (pw_and1 (pt_cmp (pc_dnotin (hu_of hr) (pv 1) (pe_fld (pv 0) rfl))))))) (pss_one (ps_dput (hu_of hr) (pe_fld (pv 0) rfl) (pv 1) (pv 3) rfl)) pss_nil)), ?_⟩
    try dsimp only [cxOf, Cx.nox, Cx.wish]
    walk_at "rd"
    refine rd_iteD (fun h1 => ?_) (fun h1 => ?_)
    · walk_at "rd"
      refine rd_iteD (fun h2 => ?_) (fun h2 => ?_)
      · have h2' : num = S.num := by have : (num : Int) = (S.num : Int) := h2; omega
        walk_at "rd"
        refine rd_iteN (fun h3 => ?_) (fun h3 => ?_)
        · have h3' : S.parts.find? (fun q => q.host == j) = none := by
            rw [List.find?_eq_none]
            intro p hp
            have := List.any_eq_false.mp h3 p hp
            exact this
          rw [gather_yes (p := ⟨j, m, st, gt⟩) h2' (by omega) h3'] at k
          walk_at "rd"
          refine rs_dput (p := ⟨j, m, st, gt⟩) g hpl h3' hb fun L3 H3 g3 => ?_
          walk_at "rd"
          exact k _ _ g3
        · walk_at "rd"
          refine no (fun z => ?_) _ _ g
          rw [List.any_eq_true] at h3
          obtain ⟨p, hp, hq⟩ := h3
          exact List.find?_eq_none.mp z.2.2 p hp hq
      · walk_at "rd"
        refine no (fun z => h2 ?_) _ _ g
        show (num : Int) = (S.num : Int)
        rw [z.1]
    · walk_at "rd"
      exact no (fun z => by omega) _ _ g
def sp_Host_cut_bytes (A : Adr) : Sp := fun vs H Q _ => ∃ h L S, vs = [.ref h] ∧ Rep A h L H S ∧ S.n ≤ 16 ∧ (∀ k, k < S.n → ∃ p, S.parts.find? (fun q => q.host == k) = some p ∧ (Sa77.recordBytes p.much p.state p.got).length ≤ 8192) ∧
  ∀ p H', Ext H H' → H' p = some (.lst ((byL (Sa77.cutBytes S)).map V.int)) → Q (.ref p) H'
theorem ok_Host_cut_bytes (T : Txt K mg A) : FnOk P w K mg base CX0 (1) A.f_Host_cut_bytes A.d_Host_cut_bytes ["self"] (sp_Host_cut_bytes A) := by
  refine T.m_Host_cut_bytes.fn.ok sc_Host_cut_bytes (fun vs H Q E h => ?_) (fun cdv A' outer s H vs Q E hr h => ?_)
  · obtain ⟨h, L, S, rfl, _⟩ := h
    rfl
  · obtain ⟨h, L, S, rfl, R, h16, hall, k⟩ := h
    have g := R.run
    refine ⟨_, (pss_cons (ps_set (i := 1) sc_Host_cut_bytes.nd rfl (Or.inl rfl) (pe_lst pa_nil))
      (pss_cons (ps_for PassesOwn.never rfl (pi_range1 rfl T.b_range (pa_cons (pe_fld (pv 0) rfl) pa_nil)) (pg_name (i := 2) sc_Host_cut_bytes.nd rfl (Or.inl rfl)) (pss_one (ps_expr (pe_bm PySem.F.plainAttrs_list PySem.F.slot_list_extend PySem.F.type_list_extend mt_extendR (pv 1) (pa_cons (pe_dget (hu_of hr) (pe_fld (pv 0) rfl) (pv 2) (fun _ _ => rfl)) pa_nil)))))
      (pss_one (ps_ret (pv 1))))), ?_⟩
    try dsimp only [cxOf, Cx.nox, Cx.wish]
    walk_at "rd"
    rename_i p hp
    have g1 := g.alloc (o := .lst []) hp
    walk_at "rd"
    refine rd_kRng h16 ?_
    refine for_range (n := S.n) (fun i σ' H' => ∃ x, σ' = [some (.ref h), some (.ref p), x] ∧ H' = upd H p (.lst ((byL (cutTo S i)).map V.int))) ?_ ?_ ?_
    · exact ⟨none, rfl, rfl⟩
    · rintro i σ' H1 hi ⟨x, rfl, rfl⟩
      have g2 := g.alloc (o := .lst ((byL (cutTo S i)).map V.int)) hp
      obtain ⟨q, hq, hl⟩ := hall i hi
      walk_at "rd"
      refine rd_kBM (SqL.of upd_same) ?_
      walk_at "rd"
      rw [Int.zero_add]
      refine rs_dget g2 hq fun b hb => ?_
      walk_at "rd"
      refine rd_ext upd_same hb.rd ?_ ?_
      · rw [map_len, map_len, ints_len, ints_len]; have := line_big; have := cutTo_len hall i (by omega); unfold sizeLine; omega
      rw [upd_upd]
      walk_at "rd"
      refine ⟨_, rfl, ?_⟩
      rw [cutTo_succ hq]
      unfold byL Sa77Neutral.ints
      rw [List.map_append, List.map_append]
    · rintro σ' H1 ⟨x, rfl, rfl⟩
      walk_at "rd"
      exact k p _ (Ext.alloc hp) upd_same
def sp_Host_probe_comes (A : Adr) : Sp := fun vs H Q _ => ∃ (h : Addr) (L : Lay) (S : SS) (j x num : Nat), vs = [.ref h, .int j, .int x, .int num] ∧ Rep A h L H S ∧ Wf 600 S ∧ j < S.n ∧ Post A h L S H Q (Sa77.probe S j x num)
theorem ok_Host_probe_comes (T : Txt K mg A) : FnOk P w K mg base CX0 (4) A.f_Host_probe_comes A.d_Host_probe_comes ["self", "sender", "who", "number"] (sp_Host_probe_comes A) := by
  refine T.m_Host_probe_comes.fn.ok sc_Host_probe_comes (fun vs H Q E h => ?_) (fun cdv A' outer s H vs Q E hr h => ?_)
  · obtain ⟨h, L, S, j, x, num, rfl, _⟩ := h
    rfl
  · obtain ⟨h, L, S, j, x, num, rfl, R, wf, hj, k⟩ := h
    have g := R.run
    have ho := wf.out
    have no : (S.wants = [] ∨ S.owes.contains j = false ∨ (S.probes.any fun p => p.1 == x && decide (num ≤ p.2)) = true) → Post A h L S H Q S := fun z => by
      unfold Sa77.probe at k; rw [if_pos z] at k; exact k
    refine ⟨_, (pss_cons (ps_if (PW.pt (pw_or (pt_not (pt_val (pe_meth0 (pv 0) T.cl_Host T.m_Host_is_blocked.mt (ok_Host_is_blocked T) (hr.mono (by decide)) T.m_Host_is_blocked.bd .nil pass0))) (pw_or1 (pt_not (pt_val (pe_ix ix_list (pe_fld (pv 0) rfl) (pv 1) (fun _ _ => rfl))))))) (pss_one ps_retN) pss_nil)
      (pss_cons (ps_if (PW.pt (pw_and (pt_cmp (pc_din (hu_of hr) (pv 2) (pe_fld (pv 0) rfl))) (pw_and1 (pt_cmpR op_ge (pe_dget (hu_of hr) (pe_fld (pv 0) rfl) (pv 2) (fun _ _ => rfl)) (pv 3) (nomark _))))) (pss_one ps_retN) pss_nil)
      (pss_cons (ps_dput (hu_of hr) (pe_fld (pv 0) rfl) (pv 2) (pv 3) rfl)
      (pss_one (ps_if (pt_cmpR op_eq (pv 2) (pe_fld (pv 0) rfl) (nomark _)) (pss_one (ps_fld (pv 0) pe_bl rfl)) (pss_one (ps_expr (pe_meth (pv 0) T.cl_Host T.m_Host_send_probe.mt (ok_Host_send_probe T) (hr.mono (by decide)) T.m_Host_send_probe.bd .nil pass0 (pa_cons (pv 2) (pa_cons (pv 3) pa_nil)))))))))), ?_⟩
    try dsimp only [cxOf, Cx.nox, Cx.wish]
    walk_at "rd"
    refine ⟨h, L, S, rfl, g.rep, wf.wants, ?_⟩
    walk_at "rd"
    refine rd_iteN (fun h1 => ?_) (fun h1 => ?_)
    · walk_at "rd"
      exact no (.inl (by simpa using h1)) _ _ g
    walk_at "rd"
    refine rd_IxOwes g rfl hj ?_
    walk_at "rd"
    refine rd_iteN (fun h2 => ?_) (fun h2 => ?_)
    · walk_at "rd"
      exact no (.inr (.inl h2)) _ _ g
    walk_at "rd"
    have pa := probe_any wf.knd x num
    have done : (S.probes.any fun p => p.1 == x && decide (num ≤ p.2)) = false → Post A h L S H Q (if x = S.me then { S with probes := (x, num) :: S.probes.filter (fun p => p.1 != x), locked := true } else Sa77.St.toAll { S with probes := (x, num) :: S.probes.filter fun p => p.1 != x } (Sa77.sorted S.wants) (.probe x num)) := fun z => by
      unfold Sa77.probe at k
      rw [if_neg] at k
      · exact k
      · rintro (q | q | q)
        · rw [q] at h1; cases h1
        · rw [q] at h2; cases h2
        · rw [z] at q; cases q
    cases e : S.probes.find? (fun p => p.1 == x) with
    | some pr =>
      rw [e] at pa
      rw [show (some pr).isSome = true from rfl]
      walk_at "rd"
      refine ct_dget g e ?_
      walk_at "rd"
      refine rd_iteD (fun h3 => ?_) (fun h3 => ?_)
      · walk_at "rd"
        refine no (.inr (.inr ?_)) _ _ g
        rw [pa]
        exact decide_eq_true (by omega)
      have pf : (S.probes.any fun p => p.1 == x && decide (num ≤ p.2)) = false := by rw [pa]; exact decide_eq_false (by omega)
      have k := done pf
      walk_at "rd"
      refine ct_dput g wf.knd (probes_len wf) fun L2 H2 g2 => ?_
      walk_at "rd"
      refine rd_iteD (fun hm => ?_) (fun hm => ?_)
      · have hm' : x = S.me := by have : (x : Int) = (S.me : Int) := hm; omega
        rw [if_pos hm'] at k
        walk_at "rd"
        exact k _ _ (by assumption)
      · have hm' : ¬ x = S.me := by intro z; apply hm; show (x : Int) = (S.me : Int); omega
        rw [if_neg hm'] at k
        walk_at "rd"
        refine ⟨h, L2, _, x, num, rfl, g2.rep, by show S.out.length ≤ 900; omega, wf.n16, wf.wants, fun L3 H3 g3 => ?_⟩
        walk_at "rd"
        exact k _ _ (g2.trans g3)
    | none =>
      rw [e] at pa
      rw [show (none : Option (Nat × Nat)).isSome = false from rfl]
      have k := done pa
      walk_at "rd"
      refine ct_dput g wf.knd (probes_len wf) fun L2 H2 g2 => ?_
      walk_at "rd"
      refine rd_iteD (fun hm => ?_) (fun hm => ?_)
      · have hm' : x = S.me := by have : (x : Int) = (S.me : Int) := hm; omega
        rw [if_pos hm'] at k
        walk_at "rd"
        exact k _ _ (by assumption)
      · have hm' : ¬ x = S.me := by intro z; apply hm; show (x : Int) = (S.me : Int); omega
        rw [if_neg hm'] at k
        walk_at "rd"
        refine ⟨h, L2, _, x, num, rfl, g2.rep, by show S.out.length ≤ 900; omega, wf.n16, wf.wants, fun L3 H3 g3 => ?_⟩
        walk_at "rd"
        exact k _ _ (g2.trans g3)
end
def kVals (x : V) (H : Hp) (R : It → Hp → Prop) : Prop := ∃ d o kvs, x = .ref d ∧ H d = some (.frz o (.dK kvs)) ∧ R (Itd d o kvs) H
theorem rd_vals {td : TE} {σ : L2.St} {H : Hp} {R : It → Hp → Prop} (q : td σ H fun x H1 => kVals x H1 R) : iVals td σ H R := q
section
variable {P : Program} {w : World} {K : PySem.W.Frag} {mg : Str → Option Value} {base : Heap} {A : Adr}
def sp_Host_work_comes (A : Adr) : Sp := fun vs H Q _ => ∃ (h : Addr) (L : Lay) (S : SS) (j : Nat) (b : Addr) (bs : List Nat), vs = [.ref h, .int j, .ref b] ∧ Rep A h L H S ∧ Wf 600 S ∧ Fz H b (byL bs) ∧ j < S.n ∧ Post A h L S H Q (Sa77.came S j (.work bs))
theorem ok_Host_work_comes (T : Txt K mg A) : FnOk P w K mg base CX0 (2) A.f_Host_work_comes A.d_Host_work_comes ["self", "sender", "row"] (sp_Host_work_comes A) := by
  refine T.m_Host_work_comes.fn.ok sc_Host_work_comes (fun vs H Q E h => ?_) (fun cdv A' outer s H vs Q E hr h => ?_)
  · obtain ⟨h, L, S, j, b, bs, rfl, _⟩ := h
    rfl
  · obtain ⟨h, L, S, j, b, bs, rfl, R, wf, hb, hj, k⟩ := h
    have g := R.run
    refine ⟨_, (pss_cons (ps_fld (pv 0) pe_bl rfl)
      (pss_cons (ps_fld (pv 0) pe_bl rfl)
      (pss_cons (ps_fld (pv 0) (pe_op op_mod (pe_op op_sub (pe_fld (pv 0) rfl) pe_int) (pe_glob (v := .int (4294967296)) rfl T.k_GOES_ROUND_AT ⟨_, rfl⟩)) rfl)
      (pss_cons (ps_expr (pe_bm PySem.F.plainAttrs_list PySem.F.slot_list_append PySem.F.type_list_append mt_append (pe_fld (pv 0) rfl) (pa_cons (pe_tup (pa_cons (pv 1) (pa_cons (pv 2) pa_nil))) pa_nil)))
      (pss_one (ps_lock (ps_for PassesOwn.never rfl (pi_values (pe_fld (pv 0) rfl)) (pg_name (i := 3) sc_Host_work_comes.nd rfl (Or.inl rfl)) (pss_one (ps_if (pt_val (pe_ix ix_list (pe_fld (pv 3) rfl) (pv 1) (fun _ _ => rfl))) (pss_one (ps_expr (pe_meth (pv 3) T.cl_Recording T.m_Recording_put_work.mt (ok_Recording_put_work T) (hr.mono (by decide)) T.m_Recording_put_work.bd .nil pass0 (pa_cons (pv 1) (pa_cons (pv 2) pa_nil))))) pss_nil))))))))), ?_⟩
    try dsimp only [cxOf, Cx.nox, Cx.wish]
    walk_at "rd"
    rename_i H1 g1 H2 g2
    refine hp_balance (z := Sa77.wrap (S.sum - 1)) T g2 ?_ fun H3 g3 => ?_
    · rw [wrap_mod]; show (S.sum % 4294967296 - 1) % 4294967296 = _; omega
    walk_at "rd"
    rename_i p hp
    have iw := wf.inb
    refine rd_app (xs := L.vw) ((g3.alloc hp).rep.co .works trivial) (by rw [g3.vw]; have := line_big; show S.inbox.length < _; omega) ?_
    have g4 := g3.take_in (j := j) hp (hb.mono g3.fr.mono)
    generalize upd (upd H3 p (.tup [.int j, .ref b])) (L.ad .works) (.lst (L.vw ++ [.ref p])) = H4 at g4 ⊢
    walk_at "rd"
    obtain ⟨L4, hL4⟩ : ∃ L4, L4 = ({ L with vw := L.vw ++ [.ref p] } : Lay) := ⟨_, rfl⟩
    obtain ⟨S4, hS4⟩ : ∃ S4 : SS, S4 = ({ S with active := true, black := true, sum := Sa77.wrap (S.sum - 1), inbox := S.inbox ++ [(j, bs)] } : SS) := ⟨_, rfl⟩
    have g4 : Run A h L S H L4 H4 S4 := by rw [hL4, hS4]; exact g4
    have nd : (S4.recs.map (·.who)).Nodup := by rw [hS4]; exact wf.rnd
    have hn4 : S4.n = S.n := by rw [hS4]
    have hgot : ∀ r ∈ S4.recs, r.got.length ≤ 64 := by rw [hS4]; exact fun r hr => (wf.rc r hr).got
    have k4 : Post A h L S H Q { S4 with recs := S4.recs.map fun r => Sa77.noted r j bs } := by rw [hS4]; exact k
    clear hS4 hL4
    have hb4 := hb.mono g4.fr.mono
    refine ⟨L4.ad .recordings, _, g4.rep.co .recordings trivial, trivial, fun od => ?_⟩
    have hne : h ≠ L4.ad .recordings := fun z => nomatch g4.rep.inj .host .recordings trivial trivial (g4.rep.hh.trans z)
    walk_at "rd"
    refine rd_vals ?_
    walk_at "rd"
    refine rd_kFld (by rw [upd_ne hne]; exact g4.host) T.cl_Host T.na_Host_recordings (fHost_recordings _) ?_
    refine ⟨_, od, _, rfl, upd_same, ?_⟩
    refine for_vals (kvs := S4.recs.map fun r => ((Sum.inl (r.who : Int) : Key), V.ref (L4.ad (.rcd r.who)))) (fun i σ' H' => ∃ x G L', σ' = [some (.ref h), some (.int j), some (.ref b), x] ∧ L'.ad = L4.ad ∧ H' = upd G (L4.ad .recordings) (.frz od (cont A L4 S4 .recordings)) ∧ Run A h L S H L' G (notedTo S4 j bs i)) ?_ ?_ ?_ ?_
    · exact ⟨none, H4, L4, rfl, rfl, rfl, by rw [notedTo_zero]; exact g4⟩
    · rintro i σ' H' ⟨x, G, L', rfl, hL, rfl, gi⟩
      exact upd_same
    · rintro i ky v σ' H' hv ⟨x, G, L', rfl, hL, rfl, gi⟩
      rw [List.getElem?_map] at hv
      obtain ⟨r, hr⟩ : ∃ r, S4.recs[i]? = some r := by
        cases q : S4.recs[i]? with
        | none => rw [q] at hv; cases hv
        | some r => exact ⟨r, rfl⟩
      rw [hr] at hv
      cases hv
      have er := notedTo_at nd j bs hr
      have ndi := notedTo_nd nd j bs i
      have wr := hgot r (List.mem_of_getElem? hr)
      have off : ∀ t, onT (notedTo S4 j bs i) t → t ≠ .recordings → L'.ad t ≠ L4.ad .recordings := fun t on q z => q (gi.rep.inj t .recordings on trivial (by rw [hL]; rw [hL] at z; exact z))
      have e1 : upd G (L4.ad .recordings) (.frz od (cont A L4 S4 .recordings)) (L4.ad (.rcd r.who)) = some (.ins A.c_Recording (L'.rdx r.who) (fRecording (recF L' r))) := by
        rw [← congrFun hL (.rcd r.who), upd_ne (off _ (onR er).1 (fun z => nomatch z))]; exact gi.rcd er
      have e2 : upd G (L4.ad .recordings) (.frz od (cont A L4 S4 .recordings)) (L'.ad (.rway r.who)) = some (.lst ((blB S4.n r.ways).map V.bl)) := by
        rw [upd_ne (off _ (onR er).2.1 (fun z => nomatch z))]; exact gi.rway er
      have e3 : upd G (L4.ad .recordings) (.frz od (cont A L4 S4 .recordings)) (L'.ad (.rwrk r.who)) = some (.lst (L'.rvs r.who)) := by
        rw [upd_ne (off _ (onR er).2.2 (fun z => nomatch z))]; exact gi.rwrk er
      walk_at "rd"
      refine g_Recording_ways T ⟨_, _, e1, ?_⟩
      walk_at "rd"
      refine rd_IxL (SqL.of e2) (bl_get (by rw [hn4]; exact hj)) ?_
      walk_at "rd"
      refine rd_ite (fun hc => ?_) (fun hc => ?_)
      · walk_at "rd"
        refine rd_kMeth e1 (nm_Recording_put_work _) ?_
        walk_at "rd"
        have lv : (L'.rvs r.who).length = r.got.length := by have := pd_len (gi.rep.fz.rvs _ _ er); rw [List.length_map] at this; exact this
        refine ⟨_, _, _, L'.rvs r.who, j, b, rfl, e1, e3, fun hl q hq => ?_, fun hl => ?_⟩
        · have nq : G q = none := upd_dom hq
          have qr : q ≠ L4.ad .recordings := fun z => by rw [z, upd_same] at hq; cases hq
          have gn := gi.rec_work er (j := j) nq (hb.mono gi.fr.mono)
          rw [setR_congr ndi er (f' := fun q => Sa77.noted q j bs) (by
            unfold Sa77.noted
            rw [if_neg (by rw [hc]; exact fun z => nomatch z), if_neg (by omega)]; rfl), ← notedTo_succ nd j bs hr] at gn
          walk_at "rd"
          refine ⟨_, _, _, rfl, ?_, ?_, gn⟩
          · exact hL
          · rw [upd_comm (Ne.symm qr), upd_comm]
            · rfl
            · exact Ne.symm (off _ (onR er).2.2 (fun z => nomatch z))
        · have gn := gi.rec_much er
          rw [setR_congr ndi er (f' := fun q => Sa77.noted q j bs) (by
            unfold Sa77.noted
            rw [if_neg (by rw [hc]; exact fun z => nomatch z), if_pos (by omega)]; rfl), ← notedTo_succ nd j bs hr] at gn
          walk_at "rd"
          refine ⟨_, _, L', rfl, hL, ?_, gn⟩
          rw [← congrFun hL (.rcd r.who), upd_comm]
          exact Ne.symm (off _ (onR er).1 (fun z => nomatch z))
      · walk_at "rd"
        refine ⟨_, G, L', rfl, hL, rfl, ?_⟩
        rw [notedTo_succ nd j bs hr, setR_congr ndi er (f' := fun q => q) (by unfold Sa77.noted; rw [if_pos hc]), setR_id]
        exact gi
    · rintro σ' H' ⟨x, G, L', rfl, hL, rfl, gi⟩
      rw [List.length_map, notedTo_all] at gi
      refine ⟨upd_same, ?_⟩
      walk_at "rd"
      have : upd (upd G (L4.ad .recordings) (.frz od (cont A L4 S4 .recordings))) (L4.ad .recordings) (cont A L4 S4 .recordings) = G := by
        rw [upd_upd]
        refine upd_self ?_
        rw [← hL, gi.rep.co .recordings trivial]
        show some (HO.dK _) = some (HO.dK _)
        rw [List.map_map, hL]
        congr 2
        apply List.map_congr_left
        intro q _
        simp only [Function.comp, (noted_who q j bs).1]
      rw [this]
      exact k4 _ _ gi
end
theorem cut_drop (xs : List V) (k : Nat) : cutV xs (some (k : Int)) none = xs.drop k := by
  unfold cutV
  rw [HT.sIx_nat, HT.sIx_none]
  by_cases h : k ≤ xs.length
  · rw [Nat.min_eq_left h, List.take_of_length_le (by rw [List.length_drop]; omega)]
  · rw [Nat.min_eq_right (by omega), Nat.sub_self, List.take_zero, List.drop_eq_nil_of_le (by omega)]
theorem five {r : List Nat} (h : r.length = 5) : ∃ c a0 a1 a2 a3, r = [c, a0, a1, a2, a3] := by
  match r, h with
  | [c, a0, a1, a2, a3], _ => exact ⟨c, a0, a1, a2, a3, rfl⟩
theorem four_more {r : List Nat} (h : 4 ≤ r.length) : ∃ a0 a1 a2 a3 r', r = a0 :: a1 :: a2 :: a3 :: r' := by
  cases r with
  | nil => simp at h
  | cons a r => cases r with
    | nil => simp at h
    | cons b r => cases r with
      | nil => simp at h
      | cons c r => cases r with
        | nil => simp at h
        | cons d r => exact ⟨a, b, c, d, r, rfl⟩
theorem natOf_lt {a b c d : Nat} (ha : a < 256) (hb : b < 256) (hc : c < 256) (hd : d < 256) : a + b * 256 + c * 65536 + d * 16777216 < 4294967296 := by omega
section
variable {P : Program} {w : World} {K : PySem.W.Frag} {mg : Str → Option Value} {base : Heap} {A : Adr}
def sp_message_comes (A : Adr) : Sp := fun vs H Q _ => ∃ (h : Addr) (L : Lay) (S : SS) (j : Nat) (b : Addr) (bs : List Nat) (m : Sa77.Msg), vs = [.ref h, .int j, .ref b] ∧ Rep A h L H S ∧ Wf 512 S ∧ Fz H b (byL bs) ∧ j < S.n ∧ (∀ x ∈ bs, x < 256) ∧ Sa77.msgOf S.n bs = some m ∧ Post A h L S H Q (Sa77.came S j m)
set_option maxHeartbeats 4000000 in
theorem ok_message_comes (T : Txt K mg A) : FnOk P w K mg base CX0 (5) A.f_message_comes A.d_message_comes ["host", "sender", "message"] (sp_message_comes A) := by
  refine T.g_message_comes.fn.ok sc_message_comes (fun vs H Q E h => ?_) (fun cdv A' outer s H vs Q E hr h => ?_)
  · obtain ⟨h, L, S, j, b, bs, m, rfl, _⟩ := h
    rfl
  · obtain ⟨h, L, S, j, b, bs, m, rfl, R, wf, hb, hj, hby, hm, k⟩ := h
    have g := R.run
    have wf6 : Wf 600 S := wf.mono (by omega)
    have ho := wf.out
    have hn1 : 1 ≤ S.n := by have := wf.n2; omega
    obtain ⟨t, r, rfl⟩ : ∃ t r, bs = t :: r := by
      cases bs with
      | nil => cases hm
      | cons t r => exact ⟨t, r, rfl⟩
    refine ⟨_, (pss_cons (ps_set (i := 3) sc_message_comes.nd rfl (Or.inl rfl) (pe_ix ix_list (pv 2) pe_int (fun _ _ => rfl)))
      (pss_one (ps_if (pt_cmpR op_eq (pv 3) (pe_glob (v := .int (1)) rfl T.k_WORK ⟨_, rfl⟩) (nomark _)) (pss_one (ps_expr (pe_meth (pv 0) T.cl_Host T.m_Host_work_comes.mt (ok_Host_work_comes T) (hr.mono (by decide)) T.m_Host_work_comes.bd .nil pass0 (pa_cons (pv 1) (pa_cons (pe_frz (pe_slice sl_list (pv 2) (po_some pe_int) po_none)) pa_nil))))) (pss_one (ps_if (pt_cmpR op_eq (pv 3) (pe_glob (v := .int (2)) rfl T.k_TOKEN ⟨_, rfl⟩) (nomark _)) (pss_one (ps_expr (pe_meth (pv 0) T.cl_Host T.m_Host_token_comes.mt (ok_Host_token_comes T) (hr.mono (by decide)) T.m_Host_token_comes.bd .nil pass0 (pa_cons (pe_cmpR op_eq (pe_ix ix_list (pv 2) pe_int (fun _ _ => rfl)) pe_int (nomark _)) (pa_cons (pe_call (ok_number_at T) (hr.mono (by decide)) rfl T.g_number_at.mg T.g_number_at.fn.kp T.g_number_at.bd .nil pass0 (pa_cons (pv 2) (pa_cons pe_int pa_nil))) pa_nil))))) (pss_one (ps_if (pt_cmpR op_eq (pv 3) (pe_glob (v := .int (3)) rfl T.k_MARKER ⟨_, rfl⟩) (nomark _)) (pss_one (ps_expr (pe_meth (pv 0) T.cl_Host T.m_Host_marker_comes.mt (ok_Host_marker_comes T) (hr.mono (by decide)) T.m_Host_marker_comes.bd .nil pass0 (pa_cons (pv 1) (pa_cons (pe_ix ix_list (pv 2) pe_int (fun _ _ => rfl)) (pa_cons (pe_call (ok_number_at T) (hr.mono (by decide)) rfl T.g_number_at.mg T.g_number_at.fn.kp T.g_number_at.bd .nil pass0 (pa_cons (pv 2) (pa_cons pe_int pa_nil))) pa_nil)))))) (pss_one (ps_if (pt_cmpR op_eq (pv 3) (pe_glob (v := .int (4)) rfl T.k_RECORD ⟨_, rfl⟩) (nomark _)) (pss_one (ps_expr (pe_meth (pv 0) T.cl_Host T.m_Host_record_comes.mt (ok_Host_record_comes T) (hr.mono (by decide)) T.m_Host_record_comes.bd .nil pass0 (pa_cons (pv 1) (pa_cons (pe_call (ok_number_at T) (hr.mono (by decide)) rfl T.g_number_at.mg T.g_number_at.fn.kp T.g_number_at.bd .nil pass0 (pa_cons (pv 2) (pa_cons pe_int pa_nil))) (pa_cons (pe_frz (pe_slice sl_list (pv 2) (po_some (pe_glob (v := .int (5)) rfl T.k_TOO_MUCH_AT ⟨_, rfl⟩)) po_none)) pa_nil)))))) (pss_one (ps_if (pt_cmpR op_eq (pv 3) (pe_glob (v := .int (5)) rfl T.k_WANT_messages ⟨_, rfl⟩) (nomark _)) (pss_one (ps_expr (pe_meth (pv 0) T.cl_Host T.m_Host_want_comes.mt (ok_Host_want_comes T) (hr.mono (by decide)) T.m_Host_want_comes.bd .nil pass0 (pa_cons (pv 1) pa_nil)))) (pss_one (ps_if (pt_cmpR op_eq (pv 3) (pe_glob (v := .int (6)) rfl T.k_GRANT_messages ⟨_, rfl⟩) (nomark _)) (pss_one (ps_expr (pe_meth (pv 0) T.cl_Host T.m_Host_grant_comes.mt (ok_Host_grant_comes T) (hr.mono (by decide)) T.m_Host_grant_comes.bd .nil pass0 (pa_cons (pv 1) pa_nil)))) (pss_one (ps_expr (pe_meth (pv 0) T.cl_Host T.m_Host_probe_comes.mt (ok_Host_probe_comes T) (hr.mono (by decide)) T.m_Host_probe_comes.bd .nil pass0 (pa_cons (pv 1) (pa_cons (pe_ix ix_list (pv 2) pe_int (fun _ _ => rfl)) (pa_cons (pe_call (ok_number_at T) (hr.mono (by decide)) rfl T.g_number_at.mg T.g_number_at.fn.kp T.g_number_at.bd .nil pass0 (pa_cons (pv 2) (pa_cons pe_int pa_nil))) pa_nil))))))))))))))))))), ?_⟩
    try dsimp only [cxOf, Cx.nox, Cx.wish]
    walk_at "rd"
    refine rd_IxB hb (n := 0) rfl rfl ?_
    walk_at "rd"
    refine rd_iteD (fun h1 => ?_) (fun h1 => ?_)
    · obtain rfl : t = 1 := by have : (t : Int) = 1 := h1; omega
      rw [msg_work] at hm
      split at hm
      · cases hm
        walk_at "rd"
        refine rd_SlL hb.sq fun p hp => ?_
        refine rd_kFrzN fun od => ?_
        walk_at "rd"
        have g1 := g.alloc (o := .frz od (.lst (cutV ((byL (1 :: r)).map V.int) (some 1) none))) hp
        refine ⟨h, L, S, j, p, r, rfl, g1.rep, wf6, ⟨od, ?_⟩, hj, fun L2 H2 g2 => ?_⟩
        · rw [upd_same, show (some (1 : Int)) = some ((1 : Nat) : Int) from rfl, cut_drop]; rfl
        walk_at "rd"
        exact k _ _ (g1.trans g2)
      · cases hm
    have n1 : t ≠ 1 := fun z => h1 (by rw [z]; rfl)
    walk_at "rd"
    refine rd_iteD (fun h2 => ?_) (fun h2 => ?_)
    · obtain rfl : t = 2 := by have : (t : Int) = 2 := h2; omega
      rw [msg_token] at hm
      split at hm
      · next hc =>
        cases hm
        obtain ⟨c, a0, a1, a2, a3, rfl⟩ := five hc.1
        have hlt := natOf_lt (hby a0 (by simp)) (hby a1 (by simp)) (hby a2 (by simp)) (hby a3 (by simp))
        walk_at "rd"
        refine rd_IxB hb (n := 1) rfl rfl ?_
        walk_at "rd"
        refine ⟨b, _, 2, a0, a1, a2, a3, rfl, hb, rfl, rfl, rfl, rfl, ?_⟩
        walk_at "rd"
        refine ⟨h, L, S, c == 1, Sa77.wrap ((Sa77.natOf [a0, a1, a2, a3] : Nat) : Int), ?_, g.rep, by omega, hn1, fun L2 H2 g2 => ?_⟩
        · rw [wrap_mod, natOf4]
          have e1 : decide ((c : Int) = 1) = (c == 1) := by rw [Bool.eq_iff_iff]; simp; omega
          rw [e1, Int.emod_eq_of_lt (by omega) (by omega)]
        walk_at "rd"
        exact k _ _ g2
      · cases hm
    have n2 : t ≠ 2 := fun z => h2 (by rw [z]; rfl)
    walk_at "rd"
    refine rd_iteD (fun h3 => ?_) (fun h3 => ?_)
    · obtain rfl : t = 3 := by have : (t : Int) = 3 := h3; omega
      rw [msg_marker] at hm
      split at hm
      · next hc =>
        cases hm
        obtain ⟨c, a0, a1, a2, a3, rfl⟩ := five hc.1
        walk_at "rd"
        refine rd_IxB hb (n := 1) rfl rfl ?_
        walk_at "rd"
        refine ⟨b, _, 2, a0, a1, a2, a3, rfl, hb, rfl, rfl, rfl, rfl, ?_⟩
        walk_at "rd"
        refine ⟨h, L, S, j, c, Sa77.natOf [a0, a1, a2, a3], by rw [natOf4], g.rep, wf6, hj, hc.2, fun L2 H2 g2 => ?_⟩
        walk_at "rd"
        exact k _ _ g2
      · cases hm
    have n3 : t ≠ 3 := fun z => h3 (by rw [z]; rfl)
    walk_at "rd"
    refine rd_iteD (fun h4 => ?_) (fun h4 => ?_)
    · obtain rfl : t = 4 := by have : (t : Int) = 4 := h4; omega
      obtain ⟨much, st, gt, rfl, h5, hl⟩ := msg_record hm
      obtain ⟨a0, a1, a2, a3, r', rfl⟩ := four_more hl
      walk_at "rd"
      refine ⟨b, _, 1, a0, a1, a2, a3, rfl, hb, rfl, rfl, rfl, rfl, ?_⟩
      walk_at "rd"
      refine rd_SlL hb.sq fun p hp => ?_
      refine rd_kFrzN fun od => ?_
      walk_at "rd"
      have g1 := g.alloc (o := .frz od (.lst (cutV ((byL (4 :: a0 :: a1 :: a2 :: a3 :: r')).map V.int) (some 5) none))) hp
      refine ⟨h, L, S, j, Sa77.natOf [a0, a1, a2, a3], p, much, st, gt, by rw [natOf4], g1.rep, ⟨od, ?_⟩, parts_len wf, fun L2 H2 g2 => ?_⟩
      · rw [upd_same, show (some (5 : Int)) = some ((5 : Nat) : Int) from rfl, cut_drop, ← h5]
        unfold byL Sa77Neutral.ints
        rw [List.map_drop, List.map_drop]
      walk_at "rd"
      exact k _ _ (g1.trans g2)
    have n4 : t ≠ 4 := fun z => h4 (by rw [z]; rfl)
    walk_at "rd"
    refine rd_iteD (fun h5 => ?_) (fun h5 => ?_)
    · obtain rfl : t = 5 := by have : (t : Int) = 5 := h5; omega
      rw [msg_want] at hm
      split at hm
      · cases hm
        walk_at "rd"
        refine ⟨h, L, S, j, rfl, g.rep, hj, fun L2 H2 g2 => ?_⟩
        walk_at "rd"
        exact k _ _ g2
      · cases hm
    have n5 : t ≠ 5 := fun z => h5 (by rw [z]; rfl)
    walk_at "rd"
    refine rd_iteD (fun h6 => ?_) (fun h6 => ?_)
    · obtain rfl : t = 6 := by have : (t : Int) = 6 := h6; omega
      rw [msg_grant] at hm
      split at hm
      · cases hm
        walk_at "rd"
        refine ⟨h, L, S, j, rfl, g.rep, hj, fun L2 H2 g2 => ?_⟩
        walk_at "rd"
        exact k _ _ g2
      · cases hm
    have n6 : t ≠ 6 := fun z => h6 (by rw [z]; rfl)
    have h7 : t = 7 := by
      apply Classical.byContradiction
      intro z
      rw [right_other n1 n2 n3 n4 n5 n6 z] at hm; cases hm
    subst h7
    rw [msg_probe] at hm
    split at hm
    · next hc =>
      cases hm
      obtain ⟨c, a0, a1, a2, a3, rfl⟩ := five hc.1
      walk_at "rd"
      refine rd_IxB hb (n := 1) rfl rfl ?_
      walk_at "rd"
      refine ⟨b, _, 2, a0, a1, a2, a3, rfl, hb, rfl, rfl, rfl, rfl, ?_⟩
      walk_at "rd"
      refine ⟨h, L, S, j, c, Sa77.natOf [a0, a1, a2, a3], by rw [natOf4], g.rep, wf6, hj, fun L2 H2 g2 => ?_⟩
      walk_at "rd"
      exact k _ _ g2
    · cases hm
end
def ansL (a : Sa77.Ans) : List Int := a.v :: (byL a.whom.toList ++ byL a.l)
def AnsP (A : Adr) (h : Addr) (L : Lay) (S : SS) (H : Hp) (Q : VK) (S' : SS) (xs : List Int) : Prop := ∀ b L' H', Run A h L S H L' H' S' → H b = none → H' b = some (.lst (xs.map V.int)) → Q (.ref b) H'
def AnsD (A : Adr) (h : Addr) (L : Lay) (S : SS) (H : Hp) (Q : VK) (r : Sa77.Abs × Sa77.Ans) : Prop := ∃ S', r.1 = some S' ∧ AnsP A h L S H Q S' (ansL r.2)
theorem AnsD.at {A : Adr} {h : Addr} {L : Lay} {S S1 : SS} {H : Hp} {Q : VK} {r : Sa77.Abs × Sa77.Ans} {a : Sa77.Ans} (k : AnsD A h L S H Q r) (e : r = (some S1, a)) : AnsP A h L S H Q S1 (ansL a) := by
  subst e
  obtain ⟨S', e1, k⟩ := k
  cases e1
  exact k
theorem ff_of {b : Bool} (h : ¬ b = true) : b = false := by cases b <;> first | rfl | exact absurd rfl h
section
variable {P : Program} {w : World} {K : PySem.W.Frag} {mg : Str → Option Value} {base : Heap} {A : Adr}
def sp_dt_state (A : Adr) : Sp := fun vs H Q _ => ∃ h L S b bs, vs = [.ref h, .ref b] ∧ Rep A h L H S ∧ Fz H b (byL bs) ∧ AnsD A h L S H Q (Sa77.does (some S) (.state bs bs.length))
theorem ok_dt_state (T : Txt K mg A) : FnOk P w K mg base CX0 (1) A.f_dt_state A.d_dt_state ["host", "row"] (sp_dt_state A) := by
  refine T.g_dt_state.fn.ok sc_dt_state (fun vs H Q E h => ?_) (fun cdv A' outer s H vs Q E hr h => ?_)
  · obtain ⟨h, L, S, b, bs, rfl, _⟩ := h
    rfl
  · obtain ⟨h, L, S, b, bs, rfl, R, hb, k⟩ := h
    have g := R.run
    refine ⟨_, (pss_cons (ps_if (pt_cmpR op_gt (pe_callB call_lenR (by rfl) T.b_len PySem.boot_len (pa_cons (pv 1) pa_nil)) (pe_glob (v := .int (64)) rfl T.k_MOST_BYTES ⟨_, rfl⟩) (nomark _)) (pss_one (ps_ret (pe_lst (pa_cons (pe_glob (v := .int (-2)) rfl T.k_WRONG ⟨_, rfl⟩) pa_nil)))) pss_nil)
      (pss_cons (ps_fld (pv 0) (pv 1) rfl)
      (pss_one (ps_ret (pe_lst (pa_cons pe_int pa_nil)))))), ?_⟩
    try dsimp only [cxOf, Cx.nox, Cx.wish]
    walk_at "rd"
    refine rd_iteD (fun hc => ?_) (fun hc => ?_)
    · walk_at "rd"
      rename_i p hp
      refine k.at (S1 := S) (a := Sa77.ok (-2)) ?_ p L _ (g.alloc hp) (g.fr.dom _ hp) upd_same
      simp only [Sa77.does]
      rw [if_pos (ff_of fun z => by rw [within_iff] at z; omega)]
    · walk_at "rd"
      refine hp_state T g hb fun H1 g1 => ?_
      walk_at "rd"
      rename_i p hp
      refine k.at (a := Sa77.ok 0) ?_ p _ _ (g1.alloc hp) (g1.fr.dom _ hp) upd_same
      simp only [Sa77.does]
      rw [if_neg (by rw [within_iff.mpr (by omega)]; exact fun z => nomatch z)]
def sp_dt_send (A : Adr) : Sp := fun vs H Q _ => ∃ h L S z b bs, vs = [.ref h, .int z, .ref b] ∧ Rep A h L H S ∧ Fz H b (byL bs) ∧ AnsD A h L S H Q (Sa77.does (some S) (.send z bs bs.length))
theorem ok_dt_send (T : Txt K mg A) : FnOk P w K mg base CX0 (3) A.f_dt_send A.d_dt_send ["host", "to", "row"] (sp_dt_send A) := by
  refine T.g_dt_send.fn.ok sc_dt_send (fun vs H Q E h => ?_) (fun cdv A' outer s H vs Q E hr h => ?_)
  · obtain ⟨h, L, S, z, b, bs, rfl, _⟩ := h
    rfl
  · obtain ⟨h, L, S, z, b, bs, rfl, R, hb, k⟩ := h
    have g := R.run
    simp only [Sa77.does] at k
    refine ⟨_, (pss_cons (ps_if (PW.pt (pw_or (pt_not (pt_val (pe_meth (pv 0) T.cl_Host T.m_Host_is_other.mt (ok_Host_is_other T) (hr.mono (by decide)) T.m_Host_is_other.bd .nil pass0 (pa_cons (pv 1) pa_nil)))) (pw_or1 (pt_cmpR op_gt (pe_callB call_lenR (by rfl) T.b_len PySem.boot_len (pa_cons (pv 2) pa_nil)) (pe_glob (v := .int (64)) rfl T.k_MOST_BYTES ⟨_, rfl⟩) (nomark _))))) (pss_one (ps_ret (pe_lst (pa_cons (pe_glob (v := .int (-2)) rfl T.k_WRONG ⟨_, rfl⟩) pa_nil)))) pss_nil)
      (pss_cons (ps_if (pt_not (pt_val (pe_fld (pv 0) rfl))) (pss_one (ps_ret (pe_lst (pa_cons (pe_glob (v := .int (-3)) rfl T.k_NOT_NOW ⟨_, rfl⟩) pa_nil)))) pss_nil)
      (pss_cons (ps_if (pt_val (pe_meth0 (pv 0) T.cl_Host T.m_Host_is_busy.mt (ok_Host_is_busy T) (hr.mono (by decide)) T.m_Host_is_busy.bd .nil pass0)) (pss_one (ps_ret (pe_lst (pa_cons (pe_glob (v := .int (-4)) rfl T.k_TOO_MANY ⟨_, rfl⟩) pa_nil)))) pss_nil)
      (pss_cons (ps_expr (pe_meth (pv 0) T.cl_Host T.m_Host_send_work.mt (ok_Host_send_work T) (hr.mono (by decide)) T.m_Host_send_work.bd .nil pass0 (pa_cons (pv 1) (pa_cons (pv 2) pa_nil))))
      (pss_one (ps_ret (pe_lst (pa_cons pe_int pa_nil)))))))), ?_⟩
    try dsimp only [cxOf, Cx.nox, Cx.wish]
    walk_at "rd"
    refine ⟨h, L, S, z, rfl, R, ?_⟩
    walk_at "rd"
    refine rd_iteN (fun h1 => ?_) (fun h1 => ?_)
    · walk_at "rd"
      rename_i p hp
      refine k.at (S1 := S) (a := Sa77.ok (-2)) ?_ p L _ (g.alloc hp) (g.fr.dom _ hp) upd_same
      rw [if_pos (by rw [h1, Bool.false_and])]
    walk_at "rd"
    refine rd_iteD (fun h2 => ?_) (fun h2 => ?_)
    · walk_at "rd"
      rename_i p hp
      refine k.at (S1 := S) (a := Sa77.ok (-2)) ?_ p L _ (g.alloc hp) (g.fr.dom _ hp) upd_same
      rw [if_pos (by rw [ff_of (b := Sa77.within _ _ _) fun z => by rw [within_iff] at z; omega, Bool.and_false])]
    rw [if_neg (by rw [h1, within_iff.mpr (by omega)]; exact fun z => nomatch z)] at k
    walk_at "rd"
    refine rd_iteN (fun h3 => ?_) (fun h3 => ?_)
    · walk_at "rd"
      rename_i p hp
      refine k.at (S1 := S) (a := Sa77.ok (-3)) ?_ p L _ (g.alloc hp) (g.fr.dom _ hp) upd_same
      rw [if_pos h3]
    rw [if_neg (by rw [h3]; exact fun z => nomatch z)] at k
    walk_at "rd"
    refine ⟨h, L, S, rfl, R, ?_⟩
    walk_at "rd"
    refine rd_ite (fun h4 => ?_) (fun h4 => ?_)
    · walk_at "rd"
      rename_i p hp
      refine k.at (S1 := S) (a := Sa77.ok (-4)) ?_ p L _ (g.alloc hp) (g.fr.dom _ hp) upd_same
      rw [if_pos h4]
    rw [if_neg (by rw [h4]; exact fun z => nomatch z)] at k
    have hz := other_iff.mp h1
    have := busy_le h4
    walk_at "rd"
    refine ⟨h, L, S, z.toNat, bs, b, by rw [Int.toNat_of_nonneg hz.1], R, hb, by omega, by omega, fun L2 H2 g2 => ?_⟩
    walk_at "rd"
    rename_i p hp
    exact k.at (a := Sa77.ok 0) rfl p _ _ (g2.alloc hp) (g2.fr.dom _ hp) upd_same
def sp_dt_idle (A : Adr) : Sp := fun vs H Q _ => ∃ h L S, vs = [.ref h] ∧ Rep A h L H S ∧ 1 ≤ S.n ∧ AnsD A h L S H Q (Sa77.does (some S) .idle)
theorem ok_dt_idle (T : Txt K mg A) : FnOk P w K mg base CX0 (5) A.f_dt_idle A.d_dt_idle ["host"] (sp_dt_idle A) := by
  refine T.g_dt_idle.fn.ok sc_dt_idle (fun vs H Q E h => ?_) (fun cdv A' outer s H vs Q E hr h => ?_)
  · obtain ⟨h, L, S, rfl, _⟩ := h
    rfl
  · obtain ⟨h, L, S, rfl, R, hn, k⟩ := h
    have g := R.run
    simp only [Sa77.does] at k
    refine ⟨_, (pss_cons (ps_if (PW.pt (pw_or (pt_not (pt_val (pe_fld (pv 0) rfl))) (pw_or1 (pt_cmpR op_gt (pe_callB call_lenR (by rfl) T.b_len PySem.boot_len (pa_cons (pe_fld (pv 0) rfl) pa_nil)) pe_int (nomark _))))) (pss_one (ps_ret (pe_lst (pa_cons (pe_glob (v := .int (-3)) rfl T.k_NOT_NOW ⟨_, rfl⟩) pa_nil)))) pss_nil)
      (pss_cons (ps_if (pt_val (pe_meth0 (pv 0) T.cl_Host T.m_Host_is_busy.mt (ok_Host_is_busy T) (hr.mono (by decide)) T.m_Host_is_busy.bd .nil pass0)) (pss_one (ps_ret (pe_lst (pa_cons (pe_glob (v := .int (-4)) rfl T.k_TOO_MANY ⟨_, rfl⟩) pa_nil)))) pss_nil)
      (pss_cons (ps_expr (pe_meth0 (pv 0) T.cl_Host T.m_Host_become_idle.mt (ok_Host_become_idle T) (hr.mono (by decide)) T.m_Host_become_idle.bd .nil pass0))
      (pss_one (ps_ret (pe_lst (pa_cons pe_int pa_nil))))))), ?_⟩
    try dsimp only [cxOf, Cx.nox, Cx.wish]
    walk_at "rd"
    refine rd_iteN (fun h1 => ?_) (fun h1 => ?_)
    · walk_at "rd"
      rename_i p hp
      refine k.at (S1 := S) (a := Sa77.ok (-3)) ?_ p L _ (g.alloc hp) (g.fr.dom _ hp) upd_same
      rw [if_pos (.inl h1)]
    walk_at "rd"
    refine rd_iteD (fun h2 => ?_) (fun h2 => ?_)
    · walk_at "rd"
      rename_i p hp
      refine k.at (S1 := S) (a := Sa77.ok (-3)) ?_ p L _ (g.alloc hp) (g.fr.dom _ hp) upd_same
      rw [if_pos (.inr fun z => by rw [z] at h2; simp at h2)]
    rw [if_neg (by
      rintro (z | z)
      · rw [z] at h1; cases h1
      · exact z (List.eq_nil_of_length_eq_zero (by omega)))] at k
    walk_at "rd"
    refine ⟨h, L, S, rfl, R, ?_⟩
    walk_at "rd"
    refine rd_ite (fun h4 => ?_) (fun h4 => ?_)
    · walk_at "rd"
      rename_i p hp
      refine k.at (S1 := S) (a := Sa77.ok (-4)) ?_ p L _ (g.alloc hp) (g.fr.dom _ hp) upd_same
      rw [if_pos h4]
    rw [if_neg (by rw [h4]; exact fun z => nomatch z)] at k
    have := busy_le h4
    walk_at "rd"
    refine ⟨h, L, S, rfl, R, by omega, hn, fun L2 H2 g2 => ?_⟩
    walk_at "rd"
    rename_i p hp
    exact k.at (a := Sa77.ok 0) rfl p _ _ (g2.alloc hp) (g2.fr.dom _ hp) upd_same
def sp_dt_watch (A : Adr) : Sp := fun vs H Q _ => ∃ h L S, vs = [.ref h] ∧ Rep A h L H S ∧ 1 ≤ S.n ∧ AnsD A h L S H Q (Sa77.does (some S) .watch)
theorem ok_dt_watch (T : Txt K mg A) : FnOk P w K mg base CX0 (5) A.f_dt_watch A.d_dt_watch ["host"] (sp_dt_watch A) := by
  refine T.g_dt_watch.fn.ok sc_dt_watch (fun vs H Q E h => ?_) (fun cdv A' outer s H vs Q E hr h => ?_)
  · obtain ⟨h, L, S, rfl, _⟩ := h
    rfl
  · obtain ⟨h, L, S, rfl, R, hn, k⟩ := h
    have g := R.run
    simp only [Sa77.does] at k
    refine ⟨_, (pss_cons (ps_if (PW.pt (pw_or (pt_cmpR op_ne (pe_fld (pv 0) rfl) pe_int (nomark _)) (pw_or1 (pt_val (pe_fld (pv 0) rfl))))) (pss_one (ps_ret (pe_lst (pa_cons (pe_glob (v := .int (-3)) rfl T.k_NOT_NOW ⟨_, rfl⟩) pa_nil)))) pss_nil)
      (pss_cons (ps_if (pt_val (pe_meth0 (pv 0) T.cl_Host T.m_Host_is_busy.mt (ok_Host_is_busy T) (hr.mono (by decide)) T.m_Host_is_busy.bd .nil pass0)) (pss_one (ps_ret (pe_lst (pa_cons (pe_glob (v := .int (-4)) rfl T.k_TOO_MANY ⟨_, rfl⟩) pa_nil)))) pss_nil)
      (pss_cons (ps_expr (pe_meth0 (pv 0) T.cl_Host T.m_Host_watch.mt (ok_Host_watch T) (hr.mono (by decide)) T.m_Host_watch.bd .nil pass0))
      (pss_one (ps_ret (pe_lst (pa_cons pe_int pa_nil))))))), ?_⟩
    try dsimp only [cxOf, Cx.nox, Cx.wish]
    walk_at "rd"
    refine rd_iteN (fun h1 => ?_) (fun h1 => ?_)
    · walk_at "rd"
      rename_i p hp
      refine k.at (S1 := S) (a := Sa77.ok (-3)) ?_ p L _ (g.alloc hp) (g.fr.dom _ hp) upd_same
      rw [if_pos (.inl fun z => by rw [z] at h1; simp at h1)]
    walk_at "rd"
    refine rd_ite (fun h2 => ?_) (fun h2 => ?_)
    · walk_at "rd"
      rename_i p hp
      refine k.at (S1 := S) (a := Sa77.ok (-3)) ?_ p L _ (g.alloc hp) (g.fr.dom _ hp) upd_same
      rw [if_pos (.inr h2)]
    rw [if_neg (by
      rintro (z | z)
      · have : (S.me : Int) = 0 := by simpa using h1
        omega
      · rw [h2] at z; cases z)] at k
    walk_at "rd"
    refine ⟨h, L, S, rfl, R, ?_⟩
    walk_at "rd"
    refine rd_ite (fun h4 => ?_) (fun h4 => ?_)
    · walk_at "rd"
      rename_i p hp
      refine k.at (S1 := S) (a := Sa77.ok (-4)) ?_ p L _ (g.alloc hp) (g.fr.dom _ hp) upd_same
      rw [if_pos h4]
    rw [if_neg (by rw [h4]; exact fun z => nomatch z)] at k
    have := busy_le h4
    walk_at "rd"
    refine ⟨h, L, S, rfl, R, by omega, hn, fun L2 H2 g2 => ?_⟩
    walk_at "rd"
    rename_i p hp
    exact k.at (a := Sa77.ok 0) rfl p _ _ (g2.alloc hp) (g2.fr.dom _ hp) upd_same
end
section
variable {P : Program} {w : World} {K : PySem.W.Frag} {mg : Str → Option Value} {base : Heap} {A : Adr}
theorem others_ne {S : SS} (h2 : 2 ≤ S.n) : S.others ≠ [] := by
  intro z
  have h0 : ∀ k, k < S.n → k = S.me := fun k hk => by
    apply Classical.byContradiction
    intro hne
    have : k ∈ S.others := List.mem_filter.mpr ⟨List.mem_range.mpr hk, by simpa using hne⟩
    rw [z] at this; cases this
  have := h0 0 (by omega)
  have := h0 1 (by omega)
  omega
def sp_dt_snapshot (A : Adr) : Sp := fun vs H Q _ => ∃ h L S, vs = [.ref h] ∧ Rep A h L H S ∧ Wf 600 S ∧ AnsD A h L S H Q (Sa77.does (some S) .snapshot)
theorem ok_dt_snapshot (T : Txt K mg A) : FnOk P w K mg base CX0 (5) A.f_dt_snapshot A.d_dt_snapshot ["host"] (sp_dt_snapshot A) := by
  refine T.g_dt_snapshot.fn.ok sc_dt_snapshot (fun vs H Q E h => ?_) (fun cdv A' outer s H vs Q E hr h => ?_)
  · obtain ⟨h, L, S, rfl, _⟩ := h
    rfl
  · obtain ⟨h, L, S, rfl, R, wf, k⟩ := h
    have g := R.run
    simp only [Sa77.does] at k
    have rest : (S.num ≠ 0 ∧ S.whole = false → False) → recAt S S.me = none := fun hw => by
      by_cases q : S.num = 0
      · exact num0_me wf q
      · refine whole_me wf ?_
        cases q2 : S.whole with
        | true => rfl
        | false => exact (hw ⟨q, q2⟩).elim
    have go : recAt S S.me = none → S.busy = false → Sa77.record { S with num := S.num + 1, parts := [] } S.me (S.num + 1) S.others = Sa77.St.toAll { S with num := S.num + 1, parts := [], recs := S.recs ++ [⟨S.me, S.num + 1, S.state, S.others, [], false⟩] } S.others (.marker S.me (S.num + 1)) := fun hn _ => by
      unfold Sa77.record
      have e : recAt (Sa77.St.toAll { S with num := S.num + 1, parts := [], recs := S.recs ++ [⟨S.me, S.num + 1, S.state, S.others, [], false⟩] } S.others (.marker S.me (S.num + 1))) S.me = some ⟨S.me, S.num + 1, S.state, S.others, [], false⟩ := by
        show recAt { S with recs := S.recs ++ [_] } S.me = _
        rw [recAt_snoc rfl hn, if_pos rfl]
      show Sa77.close (Sa77.St.toAll { S with num := S.num + 1, parts := [], recs := S.recs ++ [⟨S.me, S.num + 1, S.state, S.others, [], false⟩] } S.others (.marker S.me (S.num + 1))) S.me = _
      rw [close_eq e, if_pos (others_ne wf.n2)]
    refine ⟨_, (pss_cons (ps_if (PW.pt (pw_and (pt_cmpR op_gt (pe_fld (pv 0) rfl) pe_int (nomark _)) (pw_and1 (pt_not (pt_val (pe_meth0 (pv 0) T.cl_Host T.m_Host_last_cut_is_whole.mt (ok_Host_last_cut_is_whole T) (hr.mono (by decide)) T.m_Host_last_cut_is_whole.bd .nil pass0)))))) (pss_one (ps_ret (pe_lst (pa_cons (pe_glob (v := .int (-3)) rfl T.k_NOT_NOW ⟨_, rfl⟩) pa_nil)))) pss_nil)
      (pss_cons (ps_if (PW.pt (pw_or (pt_val (pe_meth0 (pv 0) T.cl_Host T.m_Host_is_busy.mt (ok_Host_is_busy T) (hr.mono (by decide)) T.m_Host_is_busy.bd .nil pass0)) (pw_or1 (pt_cmpR op_eq (pe_fld (pv 0) rfl) (pe_glob (v := .int (4294967295)) rfl T.k_LAST_NUMBER ⟨_, rfl⟩) (nomark _))))) (pss_one (ps_ret (pe_lst (pa_cons (pe_glob (v := .int (-4)) rfl T.k_TOO_MANY ⟨_, rfl⟩) pa_nil)))) pss_nil)
      (pss_cons (ps_expr (pe_meth0 (pv 0) T.cl_Host T.m_Host_begin_cut.mt (ok_Host_begin_cut T) (hr.mono (by decide)) T.m_Host_begin_cut.bd .nil pass0))
      (pss_one (ps_ret (pe_lst (pa_cons (pe_op op_mod (pe_fld (pv 0) rfl) (pe_glob (v := .int (2147483648)) rfl T.k_TOLD_BELOW ⟨_, rfl⟩)) pa_nil))))))), ?_⟩
    try dsimp only [cxOf, Cx.nox, Cx.wish]
    walk_at "rd"
    have fin : (S.num ≠ 0 ∧ S.whole = false → False) → recAt S S.me = none := rest
    refine rd_iteD (fun h1 => ?_) (fun h1 => ?_)
    · walk_at "rd"
      refine ⟨h, L, S, rfl, R, ?_⟩
      walk_at "rd"
      refine rd_iteN (fun h2 => ?_) (fun h2 => ?_)
      · walk_at "rd"
        rename_i p hp
        refine k.at (S1 := S) (a := Sa77.ok (-3)) ?_ p L _ (g.alloc hp) (g.fr.dom _ hp) upd_same
        rw [if_pos ⟨by omega, h2⟩]
      rw [if_neg (by rintro ⟨_, z⟩; rw [h2] at z; cases z)] at k
      have hn := rest (by rintro ⟨_, z⟩; rw [h2] at z; cases z)
      walk_at "rd"
      refine ⟨h, L, S, rfl, R, ?_⟩
      walk_at "rd"
      refine rd_ite (fun h3 => ?_) (fun h3 => ?_)
      · walk_at "rd"
        rename_i p hp
        refine k.at (S1 := S) (a := Sa77.ok (-4)) ?_ p L _ (g.alloc hp) (g.fr.dom _ hp) upd_same
        rw [if_pos (.inl h3)]
      walk_at "rd"
      refine rd_iteD (fun h4 => ?_) (fun h4 => ?_)
      · walk_at "rd"
        rename_i p hp
        refine k.at (S1 := S) (a := Sa77.ok (-4)) ?_ p L _ (g.alloc hp) (g.fr.dom _ hp) upd_same
        rw [if_pos (.inr (by omega))]
      have := wf.num
      have := busy_le h3
      rw [if_neg (by rintro (z | z); rw [h3] at z; cases z; omega)] at k
      rw [go hn h3] at k
      walk_at "rd"
      refine ⟨h, L, S, rfl, R, hn, wf.n16, by omega, recs_len wf, fun L2 H2 g2 => ?_⟩
      walk_at "rd"
      rename_i p hp
      exact k.at (a := Sa77.ok _) rfl p _ _ (g2.alloc hp) (g2.fr.dom _ hp) upd_same
    · rw [if_neg (by rintro ⟨z, _⟩; omega)] at k
      have hn := rest (by rintro ⟨z, _⟩; omega)
      walk_at "rd"
      refine ⟨h, L, S, rfl, R, ?_⟩
      walk_at "rd"
      refine rd_ite (fun h3 => ?_) (fun h3 => ?_)
      · walk_at "rd"
        rename_i p hp
        refine k.at (S1 := S) (a := Sa77.ok (-4)) ?_ p L _ (g.alloc hp) (g.fr.dom _ hp) upd_same
        rw [if_pos (.inl h3)]
      walk_at "rd"
      refine rd_iteD (fun h4 => ?_) (fun h4 => ?_)
      · walk_at "rd"
        rename_i p hp
        refine k.at (S1 := S) (a := Sa77.ok (-4)) ?_ p L _ (g.alloc hp) (g.fr.dom _ hp) upd_same
        rw [if_pos (.inr (by omega))]
      have := wf.num
      have := busy_le h3
      rw [if_neg (by rintro (z | z); rw [h3] at z; cases z; omega)] at k
      rw [go hn h3] at k
      walk_at "rd"
      refine ⟨h, L, S, rfl, R, hn, wf.n16, by omega, recs_len wf, fun L2 H2 g2 => ?_⟩
      walk_at "rd"
      rename_i p hp
      exact k.at (a := Sa77.ok _) rfl p _ _ (g2.alloc hp) (g2.fr.dom _ hp) upd_same
def sp_dt_want (A : Adr) : Sp := fun vs H Q _ => ∃ h L S z, vs = [.ref h, .int z] ∧ Rep A h L H S ∧ AnsD A h L S H Q (Sa77.does (some S) (.want z))
theorem ok_dt_want (T : Txt K mg A) : FnOk P w K mg base CX0 (3) A.f_dt_want A.d_dt_want ["host", "who"] (sp_dt_want A) := by
  refine T.g_dt_want.fn.ok sc_dt_want (fun vs H Q E h => ?_) (fun cdv A' outer s H vs Q E hr h => ?_)
  · obtain ⟨h, L, S, z, rfl, _⟩ := h
    rfl
  · obtain ⟨h, L, S, z, rfl, R, k⟩ := h
    have g := R.run
    simp only [Sa77.does] at k
    refine ⟨_, (pss_cons (ps_if (pt_not (pt_val (pe_meth (pv 0) T.cl_Host T.m_Host_is_other.mt (ok_Host_is_other T) (hr.mono (by decide)) T.m_Host_is_other.bd .nil pass0 (pa_cons (pv 1) pa_nil)))) (pss_one (ps_ret (pe_lst (pa_cons (pe_glob (v := .int (-2)) rfl T.k_WRONG ⟨_, rfl⟩) pa_nil)))) pss_nil)
      (pss_cons (ps_if (pt_val (pe_ix ix_list (pe_fld (pv 0) rfl) (pv 1) (fun _ _ => rfl))) (pss_one (ps_ret (pe_lst (pa_cons (pe_glob (v := .int (-3)) rfl T.k_NOT_NOW ⟨_, rfl⟩) pa_nil)))) pss_nil)
      (pss_cons (ps_if (pt_val (pe_meth0 (pv 0) T.cl_Host T.m_Host_is_busy.mt (ok_Host_is_busy T) (hr.mono (by decide)) T.m_Host_is_busy.bd .nil pass0)) (pss_one (ps_ret (pe_lst (pa_cons (pe_glob (v := .int (-4)) rfl T.k_TOO_MANY ⟨_, rfl⟩) pa_nil)))) pss_nil)
      (pss_cons (ps_expr (pe_meth (pv 0) T.cl_Host T.m_Host_want.mt (ok_Host_want T) (hr.mono (by decide)) T.m_Host_want.bd .nil pass0 (pa_cons (pv 1) pa_nil)))
      (pss_one (ps_ret (pe_lst (pa_cons pe_int pa_nil)))))))), ?_⟩
    try dsimp only [cxOf, Cx.nox, Cx.wish]
    walk_at "rd"
    refine ⟨h, L, S, z, rfl, R, ?_⟩
    walk_at "rd"
    refine rd_iteN (fun h1 => ?_) (fun h1 => ?_)
    · walk_at "rd"
      rename_i p hp
      refine k.at (S1 := S) (a := Sa77.ok (-2)) ?_ p L _ (g.alloc hp) (g.fr.dom _ hp) upd_same
      rw [if_pos h1]
    rw [if_neg (by rw [h1]; exact fun z => nomatch z)] at k
    have hz := other_iff.mp h1
    walk_at "rd"
    refine rd_IxWaits g (n := z.toNat) (by omega) (by omega) ?_
    walk_at "rd"
    refine rd_ite (fun h2 => ?_) (fun h2 => ?_)
    · walk_at "rd"
      rename_i p hp
      refine k.at (S1 := S) (a := Sa77.ok (-3)) ?_ p L _ (g.alloc hp) (g.fr.dom _ hp) upd_same
      rw [if_pos h2]
    rw [if_neg (by rw [h2]; exact fun z => nomatch z)] at k
    walk_at "rd"
    refine ⟨h, L, S, rfl, R, ?_⟩
    walk_at "rd"
    refine rd_ite (fun h4 => ?_) (fun h4 => ?_)
    · walk_at "rd"
      rename_i p hp
      refine k.at (S1 := S) (a := Sa77.ok (-4)) ?_ p L _ (g.alloc hp) (g.fr.dom _ hp) upd_same
      rw [if_pos h4]
    rw [if_neg (by rw [h4]; exact fun z => nomatch z)] at k
    have := busy_le h4
    walk_at "rd"
    refine ⟨h, L, S, z.toNat, by rw [Int.toNat_of_nonneg hz.1], R, by omega, by omega, fun L2 H2 g2 => ?_⟩
    walk_at "rd"
    rename_i p hp
    exact k.at (a := Sa77.ok 0) rfl p _ _ (g2.alloc hp) (g2.fr.dom _ hp) upd_same
def sp_dt_grant (A : Adr) : Sp := fun vs H Q _ => ∃ h L S z, vs = [.ref h, .int z] ∧ Rep A h L H S ∧ (∀ k ∈ S.wants, k < S.n) ∧ AnsD A h L S H Q (Sa77.does (some S) (.grant z))
theorem ok_dt_grant (T : Txt K mg A) : FnOk P w K mg base CX0 (3) A.f_dt_grant A.d_dt_grant ["host", "who"] (sp_dt_grant A) := by
  refine T.g_dt_grant.fn.ok sc_dt_grant (fun vs H Q E h => ?_) (fun cdv A' outer s H vs Q E hr h => ?_)
  · obtain ⟨h, L, S, z, rfl, _⟩ := h
    rfl
  · obtain ⟨h, L, S, z, rfl, R, hw, k⟩ := h
    have g := R.run
    simp only [Sa77.does] at k
    refine ⟨_, (pss_cons (ps_if (pt_not (pt_val (pe_meth (pv 0) T.cl_Host T.m_Host_is_other.mt (ok_Host_is_other T) (hr.mono (by decide)) T.m_Host_is_other.bd .nil pass0 (pa_cons (pv 1) pa_nil)))) (pss_one (ps_ret (pe_lst (pa_cons (pe_glob (v := .int (-2)) rfl T.k_WRONG ⟨_, rfl⟩) pa_nil)))) pss_nil)
      (pss_cons (ps_if (PW.pt (pw_or (pt_not (pt_val (pe_ix ix_list (pe_fld (pv 0) rfl) (pv 1) (fun _ _ => rfl)))) (pw_or1 (pt_val (pe_meth0 (pv 0) T.cl_Host T.m_Host_is_blocked.mt (ok_Host_is_blocked T) (hr.mono (by decide)) T.m_Host_is_blocked.bd .nil pass0))))) (pss_one (ps_ret (pe_lst (pa_cons (pe_glob (v := .int (-3)) rfl T.k_NOT_NOW ⟨_, rfl⟩) pa_nil)))) pss_nil)
      (pss_cons (ps_if (pt_val (pe_meth0 (pv 0) T.cl_Host T.m_Host_is_busy.mt (ok_Host_is_busy T) (hr.mono (by decide)) T.m_Host_is_busy.bd .nil pass0)) (pss_one (ps_ret (pe_lst (pa_cons (pe_glob (v := .int (-4)) rfl T.k_TOO_MANY ⟨_, rfl⟩) pa_nil)))) pss_nil)
      (pss_cons (ps_expr (pe_meth (pv 0) T.cl_Host T.m_Host_grant.mt (ok_Host_grant T) (hr.mono (by decide)) T.m_Host_grant.bd .nil pass0 (pa_cons (pv 1) pa_nil)))
      (pss_one (ps_ret (pe_lst (pa_cons pe_int pa_nil)))))))), ?_⟩
    try dsimp only [cxOf, Cx.nox, Cx.wish]
    walk_at "rd"
    refine ⟨h, L, S, z, rfl, R, ?_⟩
    walk_at "rd"
    refine rd_iteN (fun h1 => ?_) (fun h1 => ?_)
    · walk_at "rd"
      rename_i p hp
      refine k.at (S1 := S) (a := Sa77.ok (-2)) ?_ p L _ (g.alloc hp) (g.fr.dom _ hp) upd_same
      rw [if_pos h1]
    rw [if_neg (by rw [h1]; exact fun z => nomatch z)] at k
    have hz := other_iff.mp h1
    walk_at "rd"
    refine rd_IxOwes g (n := z.toNat) (by omega) (by omega) ?_
    walk_at "rd"
    refine rd_iteN (fun h2 => ?_) (fun h2 => ?_)
    · walk_at "rd"
      rename_i p hp
      refine k.at (S1 := S) (a := Sa77.ok (-3)) ?_ p L _ (g.alloc hp) (g.fr.dom _ hp) upd_same
      rw [if_pos (.inl h2)]
    walk_at "rd"
    refine ⟨h, L, S, rfl, R, hw, ?_⟩
    walk_at "rd"
    refine rd_ite (fun h3 => ?_) (fun h3 => ?_)
    · walk_at "rd"
      rename_i p hp
      refine k.at (S1 := S) (a := Sa77.ok (-3)) ?_ p L _ (g.alloc hp) (g.fr.dom _ hp) upd_same
      rw [if_pos (.inr (by simpa using h3))]
    rw [if_neg (by
      rintro (q | q)
      · rw [h2] at q; cases q
      · exact q (by simpa using h3))] at k
    walk_at "rd"
    refine ⟨h, L, S, rfl, R, ?_⟩
    walk_at "rd"
    refine rd_ite (fun h4 => ?_) (fun h4 => ?_)
    · walk_at "rd"
      rename_i p hp
      refine k.at (S1 := S) (a := Sa77.ok (-4)) ?_ p L _ (g.alloc hp) (g.fr.dom _ hp) upd_same
      rw [if_pos h4]
    rw [if_neg (by rw [h4]; exact fun z => nomatch z)] at k
    have := busy_le h4
    walk_at "rd"
    refine ⟨h, L, S, z.toNat, by rw [Int.toNat_of_nonneg hz.1], R, by omega, by omega, fun L2 H2 g2 => ?_⟩
    walk_at "rd"
    rename_i p hp
    exact k.at (a := Sa77.ok 0) rfl p _ _ (g2.alloc hp) (g2.fr.dom _ hp) upd_same
def sp_dt_suspect (A : Adr) : Sp := fun vs H Q _ => ∃ h L S, vs = [.ref h] ∧ Rep A h L H S ∧ Wf 600 S ∧ AnsD A h L S H Q (Sa77.does (some S) .suspect)
theorem ok_dt_suspect (T : Txt K mg A) : FnOk P w K mg base CX0 (5) A.f_dt_suspect A.d_dt_suspect ["host"] (sp_dt_suspect A) := by
  refine T.g_dt_suspect.fn.ok sc_dt_suspect (fun vs H Q E h => ?_) (fun cdv A' outer s H vs Q E hr h => ?_)
  · obtain ⟨h, L, S, rfl, _⟩ := h
    rfl
  · obtain ⟨h, L, S, rfl, R, wf, k⟩ := h
    have g := R.run
    simp only [Sa77.does] at k
    refine ⟨_, (pss_cons (ps_if (pt_not (pt_val (pe_meth0 (pv 0) T.cl_Host T.m_Host_is_blocked.mt (ok_Host_is_blocked T) (hr.mono (by decide)) T.m_Host_is_blocked.bd .nil pass0))) (pss_one (ps_ret (pe_lst (pa_cons (pe_glob (v := .int (-3)) rfl T.k_NOT_NOW ⟨_, rfl⟩) pa_nil)))) pss_nil)
      (pss_cons (ps_if (PW.pt (pw_or (pt_val (pe_meth0 (pv 0) T.cl_Host T.m_Host_is_busy.mt (ok_Host_is_busy T) (hr.mono (by decide)) T.m_Host_is_busy.bd .nil pass0)) (pw_or1 (pt_cmpR op_eq (pe_fld (pv 0) rfl) (pe_glob (v := .int (4294967295)) rfl T.k_LAST_NUMBER ⟨_, rfl⟩) (nomark _))))) (pss_one (ps_ret (pe_lst (pa_cons (pe_glob (v := .int (-4)) rfl T.k_TOO_MANY ⟨_, rfl⟩) pa_nil)))) pss_nil)
      (pss_cons (ps_expr (pe_meth0 (pv 0) T.cl_Host T.m_Host_suspect.mt (ok_Host_suspect T) (hr.mono (by decide)) T.m_Host_suspect.bd .nil pass0))
      (pss_one (ps_ret (pe_lst (pa_cons pe_int pa_nil))))))), ?_⟩
    try dsimp only [cxOf, Cx.nox, Cx.wish]
    walk_at "rd"
    refine ⟨h, L, S, rfl, R, wf.wants, ?_⟩
    walk_at "rd"
    refine rd_iteN (fun h1 => ?_) (fun h1 => ?_)
    · walk_at "rd"
      rename_i p hp
      refine k.at (S1 := S) (a := Sa77.ok (-3)) ?_ p L _ (g.alloc hp) (g.fr.dom _ hp) upd_same
      rw [if_pos (by simpa using h1)]
    rw [if_neg (by simpa using h1)] at k
    walk_at "rd"
    refine ⟨h, L, S, rfl, R, ?_⟩
    walk_at "rd"
    refine rd_ite (fun h3 => ?_) (fun h3 => ?_)
    · walk_at "rd"
      rename_i p hp
      refine k.at (S1 := S) (a := Sa77.ok (-4)) ?_ p L _ (g.alloc hp) (g.fr.dom _ hp) upd_same
      rw [if_pos (.inl h3)]
    walk_at "rd"
    refine rd_iteD (fun h4 => ?_) (fun h4 => ?_)
    · walk_at "rd"
      rename_i p hp
      refine k.at (S1 := S) (a := Sa77.ok (-4)) ?_ p L _ (g.alloc hp) (g.fr.dom _ hp) upd_same
      rw [if_pos (.inr (by omega))]
    have := wf.guess
    have := busy_le h3
    rw [if_neg (by rintro (z | z); rw [h3] at z; cases z; omega)] at k
    walk_at "rd"
    refine ⟨h, L, S, rfl, R, by omega, wf.n16, wf.wants, fun L2 H2 g2 => ?_⟩
    walk_at "rd"
    rename_i p hp
    exact k.at (a := Sa77.ok 0) rfl p _ _ (g2.alloc hp) (g2.fr.dom _ hp) upd_same
def sp_dt_message (A : Adr) : Sp := fun vs H Q _ => ∃ h L S z b bs, vs = [.ref h, .int z, .ref b] ∧ Rep A h L H S ∧ Wf 600 S ∧ Fz H b (byL bs) ∧ (∀ x ∈ bs, x < 256) ∧ AnsD A h L S H Q (Sa77.does (some S) (.message z bs bs.length))
theorem ok_dt_message (T : Txt K mg A) : FnOk P w K mg base CX0 (6) A.f_dt_message A.d_dt_message ["host", "sender", "row"] (sp_dt_message A) := by
  refine T.g_dt_message.fn.ok sc_dt_message (fun vs H Q E h => ?_) (fun cdv A' outer s H vs Q E hr h => ?_)
  · obtain ⟨h, L, S, z, b, bs, rfl, _⟩ := h
    rfl
  · obtain ⟨h, L, S, z, b, bs, rfl, R, wf, hb, hby, k⟩ := h
    have g := R.run
    simp only [Sa77.does] at k
    refine ⟨_, (pss_cons (ps_if (PW.pt (pw_or (pt_not (pt_val (pe_meth (pv 0) T.cl_Host T.m_Host_is_other.mt (ok_Host_is_other T) (hr.mono (by decide)) T.m_Host_is_other.bd .nil pass0 (pa_cons (pv 1) pa_nil)))) (pw_or1 (pt_cmpR op_gt (pe_callB call_lenR (by rfl) T.b_len PySem.boot_len (pa_cons (pv 2) pa_nil)) (pe_glob (v := .int (8192)) rfl T.k_MOST_MESSAGE ⟨_, rfl⟩) (nomark _))))) (pss_one (ps_ret (pe_lst (pa_cons (pe_glob (v := .int (-2)) rfl T.k_WRONG ⟨_, rfl⟩) pa_nil)))) pss_nil)
      (pss_cons (ps_if (PW.pt (pw_or (pt_val (pe_meth0 (pv 0) T.cl_Host T.m_Host_is_busy.mt (ok_Host_is_busy T) (hr.mono (by decide)) T.m_Host_is_busy.bd .nil pass0)) (pw_or1 (pt_cmpR op_ge (pe_callB call_lenR (by rfl) T.b_len PySem.boot_len (pa_cons (pe_fld (pv 0) rfl) pa_nil)) (pe_glob (v := .int (1024)) rfl T.k_MOST_WAITING ⟨_, rfl⟩) (nomark _))))) (pss_one (ps_ret (pe_lst (pa_cons (pe_glob (v := .int (-4)) rfl T.k_TOO_MANY ⟨_, rfl⟩) pa_nil)))) pss_nil)
      (pss_cons (ps_if (pt_not (pt_val (pe_call (ok_is_right T) (hr.mono (by decide)) rfl T.g_is_right.mg T.g_is_right.fn.kp T.g_is_right.bd .nil pass0 (pa_cons (pv 2) (pa_cons (pe_fld (pv 0) rfl) pa_nil))))) (pss_one (ps_ret (pe_lst (pa_cons (pe_glob (v := .int (-3)) rfl T.k_NOT_NOW ⟨_, rfl⟩) pa_nil)))) pss_nil)
      (pss_cons (ps_expr (pe_call (ok_message_comes T) (hr.mono (by decide)) rfl T.g_message_comes.mg T.g_message_comes.fn.kp T.g_message_comes.bd .nil pass0 (pa_cons (pv 0) (pa_cons (pv 1) (pa_cons (pv 2) pa_nil)))))
      (pss_one (ps_ret (pe_lst (pa_cons pe_int pa_nil)))))))), ?_⟩
    try dsimp only [cxOf, Cx.nox, Cx.wish]
    walk_at "rd"
    refine ⟨h, L, S, z, rfl, R, ?_⟩
    walk_at "rd"
    refine rd_iteN (fun h1 => ?_) (fun h1 => ?_)
    · walk_at "rd"
      rename_i p hp
      refine k.at (S1 := S) (a := Sa77.ok (-2)) ?_ p L _ (g.alloc hp) (g.fr.dom _ hp) upd_same
      rw [if_pos (by rw [h1, Bool.false_and])]
    walk_at "rd"
    refine rd_iteD (fun h2 => ?_) (fun h2 => ?_)
    · walk_at "rd"
      rename_i p hp
      refine k.at (S1 := S) (a := Sa77.ok (-2)) ?_ p L _ (g.alloc hp) (g.fr.dom _ hp) upd_same
      rw [if_pos (by rw [ff_of (b := Sa77.within _ _ _) fun z => by rw [within_iff] at z; omega, Bool.and_false])]
    rw [if_neg (by rw [h1, within_iff.mpr (by omega)]; exact fun z => nomatch z)] at k
    have hz := other_iff.mp h1
    walk_at "rd"
    refine ⟨h, L, S, rfl, R, ?_⟩
    walk_at "rd"
    refine rd_ite (fun h3 => ?_) (fun h3 => ?_)
    · walk_at "rd"
      rename_i p hp
      refine k.at (S1 := S) (a := Sa77.ok (-4)) ?_ p L _ (g.alloc hp) (g.fr.dom _ hp) upd_same
      rw [if_pos (.inl h3)]
    walk_at "rd"
    refine rd_iteD (fun h4 => ?_) (fun h4 => ?_)
    · walk_at "rd"
      rename_i p hp
      refine k.at (S1 := S) (a := Sa77.ok (-4)) ?_ p L _ (g.alloc hp) (g.fr.dom _ hp) upd_same
      rw [if_pos (.inr (by omega))]
    rw [if_neg (by rintro (q | q); rw [h3] at q; cases q; omega)] at k
    walk_at "rd"
    refine ⟨b, bs, S.n, rfl, hb, ?_⟩
    walk_at "rd"
    cases hm : Sa77.msgOf S.n bs with
    | none =>
      rw [hm] at k
      rw [show (!(none : Option Sa77.Msg).isSome) = true from rfl]
      walk_at "rd"
      rename_i p hp
      exact k.at (S1 := S) (a := Sa77.ok (-3)) rfl p L _ (g.alloc hp) (g.fr.dom _ hp) upd_same
    | some m =>
      rw [hm] at k
      rw [show (!(some m).isSome) = false from rfl]
      walk_at "rd"
      refine ⟨h, L, S, z.toNat, b, bs, m, by rw [Int.toNat_of_nonneg hz.1], R, wf.lt (busy_le h3), hb, by omega, hby, hm, fun L2 H2 g2 => ?_⟩
      walk_at "rd"
      rename_i p hp
      exact k.at (a := Sa77.ok 0) rfl p _ _ (g2.alloc hp) (g2.fr.dom _ hp) upd_same
end
theorem rd_popAt {H : Hp} {Q : VK} {l : Addr} {v : V} {us : List V} (e : H l = some (.lst (v :: us))) (q : Q v (upd H l (.lst us))) : rPopAt (.ref l) [.int 0] H Q :=
  ⟨l, _, 0, 0, v, rfl, rfl, e, by decide, by decide, (ixN_seq (n := (v :: us).length) (i := 0) (j := 0) (by unfold ixN; rw [if_pos (by decide), if_pos (by simp only [List.length_cons]; omega)]; rfl)).1, rfl, q⟩
theorem for_rev {K : PySem.W.Frag} {a : Addr} {xs : List V} {g : TG} {tb : TS} {D : Ends} {σ : L2.St} {H : Hp} (Pv : Nat → L2.St → Hp → Prop) (h0 : Pv 0 σ H) (hl : ∀ i σ H, Pv i σ H → SqL K H a xs)
    (hs : ∀ i x σ H, i < xs.length → xs[xs.length - 1 - i]? = some x → Pv i σ H → g x σ H fun σ2 H2 => tb { D with nx := Pv (i + 1), ct := Pv (i + 1), bk := D.nx } σ2 H2) (hd : ∀ σ H, Pv xs.length σ H → D.nx σ H) :
    ∃ W : Nat → Nat → L2.St → Hp → Prop, (∃ m, W 0 m σ H) ∧ ∀ i m σ H, W i m σ H →
      ((Itv K a xs.length).stop i H ∧ D.nx σ H) ∨ ((Itv K a xs.length).go i H ∧ ∃ N : L2.St → Hp → Prop, (∀ σ' H', N σ' H' → ∃ m', m' < m ∧ W (i + 1) m' σ' H') ∧ ∀ x H', (Itv K a xs.length).yld i H x H' → g x σ H' fun σ2 H2 => tb { D with nx := N, ct := N, bk := D.nx } σ2 H2) := by
  refine ⟨fun i m σ H => m = xs.length - i ∧ i ≤ xs.length ∧ Pv i σ H, ⟨xs.length, by simp, Nat.zero_le _, h0⟩, ?_⟩
  rintro i m σ H ⟨rfl, hi, p⟩
  have q := hl i σ H p
  by_cases hlt : i < xs.length
  · refine .inr ⟨⟨hlt, xs, xs[xs.length - 1 - i]'(by omega), q, by simp⟩, Pv (i + 1), fun σ' H' p' => ⟨xs.length - (i + 1), by omega, rfl, hlt, p'⟩, fun x H' y => ?_⟩
    obtain ⟨e, y⟩ := y
    subst e
    exact hs i x σ _ hlt (y xs q) p
  · have e : i = xs.length := by omega
    subst e
    exact .inl ⟨Nat.le_refl _, hd σ H p⟩
section
variable {P : Program} {w : World} {K : PySem.W.Frag} {mg : Str → Option Value} {base : Heap} {A : Adr}
def sp_take_first (_ : Adr) : Sp := fun vs H Q _ => ∃ (l : Addr) (most : Int) (v : V) (us : List V) (to : Int) (bs : List Nat), vs = [.ref l, .int most] ∧ H l = some (.lst (v :: us)) ∧ Pr H v (to, byL bs) ∧ bs.length ≤ 8192 ∧
  (most < bs.length → ∀ p, H p = none → Q (.ref p) (upd H p (.lst [.int (-1)]))) ∧
  (¬ most < bs.length → ∀ p H', Ext (upd H l (.lst us)) H' → H p = none → H' p = some (.lst ((((bs.length : Nat) : Int) :: to :: byL bs).map V.int)) → Q (.ref p) H')
theorem ok_take_first (T : Txt K mg A) : FnOk P w K mg base CX0 (1) A.f_take_first A.d_take_first ["pairs", "most"] (sp_take_first A) := by
  refine T.g_take_first.fn.ok sc_take_first (fun vs H Q E h => ?_) (fun cdv A' outer s H vs Q E hr h => ?_)
  · obtain ⟨l, most, v, us, to, bs, rfl, _⟩ := h
    rfl
  · obtain ⟨l, most, v, us, to, bs, rfl, hl, ⟨t, b, rfl, ht, hb⟩, hlen, k1, k2⟩ := h
    refine ⟨_, (pss_cons (ps_set (i := 2) sc_take_first.nd rfl (Or.inl rfl) (pe_ix ix_tup (pe_ix ix_list (pv 0) pe_int (fun _ _ => rfl)) pe_int (fun _ _ => rfl)))
      (pss_cons (ps_set (i := 3) sc_take_first.nd rfl (Or.inl rfl) (pe_ix ix_tup (pe_ix ix_list (pv 0) pe_int (fun _ _ => rfl)) pe_int (fun _ _ => rfl)))
      (pss_cons (ps_if (pt_cmpR op_gt (pe_callB call_lenR (by rfl) T.b_len PySem.boot_len (pa_cons (pv 3) pa_nil)) (pv 1) (nomark _)) (pss_one (ps_ret (pe_lst (pa_cons (pe_glob (v := .int (-1)) rfl T.k_NO_ROOM ⟨_, rfl⟩) pa_nil)))) pss_nil)
      (pss_cons (ps_expr (pe_bm PySem.F.plainAttrs_list PySem.F.slot_list_pop PySem.F.type_list_pop mt_popAt (pv 0) (pa_cons pe_int pa_nil)))
      (pss_one (ps_ret (pe_op op_catR (pe_lst (pa_cons (pe_callB call_lenR (by rfl) T.b_len PySem.boot_len (pa_cons (pv 3) pa_nil)) (pa_cons (pv 2) pa_nil))) (pv 3)))))))), ?_⟩
    try dsimp only [cxOf, Cx.nox, Cx.wish]
    walk_at "rd"
    refine rd_IxL (n := 0) (SqL.of hl) rfl ?_
    walk_at "rd"
    refine rd_IxT (n := 0) ht rfl ?_
    walk_at "rd"
    refine rd_IxL (n := 0) (SqL.of hl) rfl ?_
    walk_at "rd"
    refine rd_IxT (n := 1) ht rfl ?_
    walk_at "rd"
    refine rd_iteD (fun hc => ?_) (fun hc => ?_)
    · walk_at "rd"
      exact k1 (by omega) _ (by assumption)
    · walk_at "rd"
      refine rd_kBM (SqL.of hl) ?_
      walk_at "rd"
      refine rd_popAt hl ?_
      have hb1 : Fz (upd H l (.lst us)) b (byL bs) := hb.mono (.upd hl trivial)
      walk_at "rd"
      rename_i p hp
      refine rd_cat (.inl upd_same) (hb1.mono (.alloc hp)).rd ?_ fun p2 hp2 => ?_
      · rw [map_len, ints_len]; have := line_big; simp only [List.length_cons, List.length_nil]; omega
      walk_at "rd"
      exact k2 (by omega) p2 _ ((Ext.alloc hp).trans (Ext.alloc hp2)) (upd_dom (upd_dom hp2)) upd_same
def sp_dt_output (A : Adr) : Sp := fun vs H Q _ => ∃ h L S most, vs = [.ref h, .int most] ∧ Rep A h L H S ∧ Wf 600 S ∧ AnsD A h L S H Q (Sa77.does (some S) (.output most))
theorem ok_dt_output (T : Txt K mg A) : FnOk P w K mg base CX0 (2) A.f_dt_output A.d_dt_output ["host", "most"] (sp_dt_output A) := by
  refine T.g_dt_output.fn.ok sc_dt_output (fun vs H Q E h => ?_) (fun cdv A' outer s H vs Q E hr h => ?_)
  · obtain ⟨h, L, S, most, rfl, _⟩ := h
    rfl
  · obtain ⟨h, L, S, most, rfl, R, wf, k⟩ := h
    have g := R.run
    simp only [Sa77.does] at k
    refine ⟨_, (pss_cons (ps_if (pt_cmpR op_lt (pv 1) pe_int (nomark _)) (pss_one (ps_ret (pe_lst (pa_cons (pe_glob (v := .int (-2)) rfl T.k_WRONG ⟨_, rfl⟩) pa_nil)))) pss_nil)
      (pss_cons (ps_if (pt_cmpR op_eq (pe_callB call_lenR (by rfl) T.b_len PySem.boot_len (pa_cons (pe_fld (pv 0) rfl) pa_nil)) pe_int (nomark _)) (pss_one (ps_ret (pe_lst (pa_cons pe_int pa_nil)))) pss_nil)
      (pss_one (ps_ret (pe_call (ok_take_first T) (hr.mono (by decide)) rfl T.g_take_first.mg T.g_take_first.fn.kp T.g_take_first.bd .nil pass0 (pa_cons (pe_fld (pv 0) rfl) (pa_cons (pv 1) pa_nil))))))), ?_⟩
    try dsimp only [cxOf, Cx.nox, Cx.wish]
    walk_at "rd"
    refine rd_iteD (fun h1 => ?_) (fun h1 => ?_)
    · walk_at "rd"
      rename_i p hp
      refine k.at (S1 := S) (a := Sa77.ok (-2)) ?_ p L _ (g.alloc hp) (g.fr.dom _ hp) upd_same
      rw [if_pos h1]
    rw [if_neg h1] at k
    walk_at "rd"
    cases ho : S.out with
    | nil =>
      rw [ho] at k
      rw [decide_eq_true (show ((([] : List (Nat × Sa77.Msg)).length : Nat) : Int) = 0 from rfl)]
      walk_at "rd"
      rename_i p hp
      exact k.at (S1 := S) (a := Sa77.ok 0) rfl p L _ (g.alloc hp) (g.fr.dom _ hp) upd_same
    | cons x l =>
      rw [ho] at k
      have k : AnsD A h L S H Q (if most < (x.2.bytes.length : Int) then (some S, Sa77.ok (-1)) else (some { S with out := l }, ⟨x.2.bytes.length, x.2.bytes, some x.1⟩)) := k
      have lx := wf.outb x (by rw [ho]; exact List.mem_cons_self)
      rw [decide_eq_false (show ¬ (((x :: l).length : Nat) : Int) = 0 by simp only [List.length_cons]; omega)]
      have pf := g.rep.fz.out
      rw [ho] at pf
      obtain ⟨v, us, ev, hv, hus⟩ : ∃ v us, L.vo = v :: us ∧ Pr H v (outB x) ∧ Prs H us (l.map outB) := by
        generalize L.vo = vo at pf
        cases pf with
        | cons a b => exact ⟨_, _, rfl, a, b⟩
      have eo := g.rep.co .out trivial
      rw [show cont A L S .out = .lst L.vo from rfl, ev] at eo
      walk_at "rd"
      refine ⟨_, most, v, us, _, x.2.bytes, rfl, eo, hv, lx, fun hc p hp => ?_, fun hc p H' e nf f => ?_⟩
      · rw [if_pos hc] at k
        exact k.at (S1 := S) (a := Sa77.ok (-1)) rfl p L _ (g.alloc hp) (g.fr.dom _ hp) upd_same
      · rw [if_neg hc] at k
        have g1 : Run A h L S H { L with vo := us } (upd H (L.ad .out) (.lst us)) { S with out := l } := by
          refine g.set .out trivial rfl (fun t h => by cases t <;> exact h) (fun t _ ne => by cases t <;> first | rfl | exact absurd rfl ne) rfl (fun H' m => ?_)
          exact { (g.rep.fz.mono m) with out := hus.mono m }
        exact k.at rfl p _ _ (g1.ext e) nf f
def sp_dt_take (A : Adr) : Sp := fun vs H Q _ => ∃ h L S most, vs = [.ref h, .int most] ∧ Rep A h L H S ∧ Wf 600 S ∧ AnsD A h L S H Q (Sa77.does (some S) (.take most))
theorem ok_dt_take (T : Txt K mg A) : FnOk P w K mg base CX0 (2) A.f_dt_take A.d_dt_take ["host", "most"] (sp_dt_take A) := by
  refine T.g_dt_take.fn.ok sc_dt_take (fun vs H Q E h => ?_) (fun cdv A' outer s H vs Q E hr h => ?_)
  · obtain ⟨h, L, S, most, rfl, _⟩ := h
    rfl
  · obtain ⟨h, L, S, most, rfl, R, wf, k⟩ := h
    have g := R.run
    simp only [Sa77.does] at k
    refine ⟨_, (pss_cons (ps_if (pt_cmpR op_lt (pv 1) pe_int (nomark _)) (pss_one (ps_ret (pe_lst (pa_cons (pe_glob (v := .int (-2)) rfl T.k_WRONG ⟨_, rfl⟩) pa_nil)))) pss_nil)
      (pss_cons (ps_if (pt_cmpR op_eq (pe_callB call_lenR (by rfl) T.b_len PySem.boot_len (pa_cons (pe_fld (pv 0) rfl) pa_nil)) pe_int (nomark _)) (pss_one (ps_ret (pe_lst (pa_cons (pe_glob (v := .int (-3)) rfl T.k_NOT_NOW ⟨_, rfl⟩) pa_nil)))) pss_nil)
      (pss_one (ps_ret (pe_call (ok_take_first T) (hr.mono (by decide)) rfl T.g_take_first.mg T.g_take_first.fn.kp T.g_take_first.bd .nil pass0 (pa_cons (pe_fld (pv 0) rfl) (pa_cons (pv 1) pa_nil))))))), ?_⟩
    try dsimp only [cxOf, Cx.nox, Cx.wish]
    walk_at "rd"
    refine rd_iteD (fun h1 => ?_) (fun h1 => ?_)
    · walk_at "rd"
      rename_i p hp
      refine k.at (S1 := S) (a := Sa77.ok (-2)) ?_ p L _ (g.alloc hp) (g.fr.dom _ hp) upd_same
      rw [if_pos h1]
    rw [if_neg h1] at k
    walk_at "rd"
    cases ho : S.inbox with
    | nil =>
      rw [ho] at k
      rw [decide_eq_true (show ((([] : List Sa77.Work).length : Nat) : Int) = 0 from rfl)]
      walk_at "rd"
      rename_i p hp
      exact k.at (S1 := S) (a := Sa77.ok (-3)) rfl p L _ (g.alloc hp) (g.fr.dom _ hp) upd_same
    | cons x l =>
      rw [ho] at k
      have k : AnsD A h L S H Q (if most < (x.2.length : Int) then (some S, Sa77.ok (-1)) else (some { S with inbox := l }, ⟨x.2.length, x.2, some x.1⟩)) := k
      have lx := wf.inbb x (by rw [ho]; exact List.mem_cons_self)
      rw [decide_eq_false (show ¬ (((x :: l).length : Nat) : Int) = 0 by simp only [List.length_cons]; omega)]
      have pf := g.rep.fz.works
      rw [ho] at pf
      obtain ⟨v, us, ev, hv, hus⟩ : ∃ v us, L.vw = v :: us ∧ Pr H v (inB x) ∧ Prs H us (l.map inB) := by
        generalize L.vw = vo at pf
        cases pf with
        | cons a b => exact ⟨_, _, rfl, a, b⟩
      have eo := g.rep.co .works trivial
      rw [show cont A L S .works = .lst L.vw from rfl, ev] at eo
      walk_at "rd"
      refine ⟨_, most, v, us, _, x.2, rfl, eo, hv, by omega, fun hc p hp => ?_, fun hc p H' e nf f => ?_⟩
      · rw [if_pos hc] at k
        exact k.at (S1 := S) (a := Sa77.ok (-1)) rfl p L _ (g.alloc hp) (g.fr.dom _ hp) upd_same
      · rw [if_neg hc] at k
        have g1 : Run A h L S H { L with vw := us } (upd H (L.ad .works) (.lst us)) { S with inbox := l } := by
          refine g.set .works trivial rfl (fun t h => by cases t <;> exact h) (fun t _ ne => by cases t <;> first | rfl | exact absurd rfl ne) rfl (fun H' m => ?_)
          exact { (g.rep.fz.mono m) with works := hus.mono m }
        exact k.at rfl p _ _ (g1.ext e) nf f
def sp_dt_cut (A : Adr) : Sp := fun vs H Q _ => ∃ h L S most, vs = [.ref h, .int most] ∧ Rep A h L H S ∧ Wf 600 S ∧ AnsD A h L S H Q (Sa77.does (some S) (.cut most))
theorem ok_dt_cut (T : Txt K mg A) : FnOk P w K mg base CX0 (2) A.f_dt_cut A.d_dt_cut ["host", "most"] (sp_dt_cut A) := by
  refine T.g_dt_cut.fn.ok sc_dt_cut (fun vs H Q E h => ?_) (fun cdv A' outer s H vs Q E hr h => ?_)
  · obtain ⟨h, L, S, most, rfl, _⟩ := h
    rfl
  · obtain ⟨h, L, S, most, rfl, R, wf, k⟩ := h
    have g := R.run
    simp only [Sa77.does] at k
    refine ⟨_, (pss_cons (ps_if (pt_cmpR op_lt (pv 1) pe_int (nomark _)) (pss_one (ps_ret (pe_lst (pa_cons (pe_glob (v := .int (-2)) rfl T.k_WRONG ⟨_, rfl⟩) pa_nil)))) pss_nil)
      (pss_cons (ps_if (PW.pt (pw_or (pt_cmpR op_eq (pe_fld (pv 0) rfl) pe_int (nomark _)) (pw_or1 (pt_not (pt_val (pe_meth0 (pv 0) T.cl_Host T.m_Host_last_cut_is_whole.mt (ok_Host_last_cut_is_whole T) (hr.mono (by decide)) T.m_Host_last_cut_is_whole.bd .nil pass0)))))) (pss_one (ps_ret (pe_lst (pa_cons (pe_glob (v := .int (-3)) rfl T.k_NOT_NOW ⟨_, rfl⟩) pa_nil)))) pss_nil)
      (pss_cons (ps_set (i := 2) sc_dt_cut.nd rfl (Or.inl rfl) (pe_meth0 (pv 0) T.cl_Host T.m_Host_cut_bytes.mt (ok_Host_cut_bytes T) (hr.mono (by decide)) T.m_Host_cut_bytes.bd .nil pass0))
      (pss_cons (ps_if (pt_cmpR op_gt (pe_callB call_lenR (by rfl) T.b_len PySem.boot_len (pa_cons (pv 2) pa_nil)) (pv 1) (nomark _)) (pss_one (ps_ret (pe_lst (pa_cons (pe_glob (v := .int (-1)) rfl T.k_NO_ROOM ⟨_, rfl⟩) pa_nil)))) pss_nil)
      (pss_one (ps_ret (pe_op op_catR (pe_lst (pa_cons (pe_callB call_lenR (by rfl) T.b_len PySem.boot_len (pa_cons (pv 2) pa_nil)) pa_nil)) (pv 2)))))))), ?_⟩
    try dsimp only [cxOf, Cx.nox, Cx.wish]
    walk_at "rd"
    refine rd_iteD (fun h1 => ?_) (fun h1 => ?_)
    · walk_at "rd"
      rename_i p hp
      refine k.at (S1 := S) (a := Sa77.ok (-2)) ?_ p L _ (g.alloc hp) (g.fr.dom _ hp) upd_same
      rw [if_pos h1]
    rw [if_neg h1] at k
    walk_at "rd"
    refine rd_iteD (fun h2 => ?_) (fun h2 => ?_)
    · walk_at "rd"
      rename_i p hp
      refine k.at (S1 := S) (a := Sa77.ok (-3)) ?_ p L _ (g.alloc hp) (g.fr.dom _ hp) upd_same
      rw [if_pos (.inl (by have : (S.num : Int) = 0 := h2; omega))]
    walk_at "rd"
    refine ⟨h, L, S, rfl, R, ?_⟩
    walk_at "rd"
    refine rd_iteN (fun h3 => ?_) (fun h3 => ?_)
    · walk_at "rd"
      rename_i p hp
      refine k.at (S1 := S) (a := Sa77.ok (-3)) ?_ p L _ (g.alloc hp) (g.fr.dom _ hp) upd_same
      rw [if_pos (.inr h3)]
    rw [if_neg (by
      rintro (q | q)
      · exact h2 (by show (S.num : Int) = 0; omega)
      · rw [h3] at q; cases q)] at k
    have hall : ∀ k, k < S.n → ∃ p, S.parts.find? (fun q => q.host == k) = some p ∧ (Sa77.recordBytes p.much p.state p.got).length ≤ 8192 := fun _ hk => whole_part wf h3 hk
    have lc : (Sa77.cutBytes S).length ≤ 8192 * S.n := cutTo_len hall S.n (Nat.le_refl _)
    have h16 := wf.n16
    walk_at "rd"
    refine ⟨h, L, S, rfl, R, wf.n16, hall, fun p H1 e1 f1 => ?_⟩
    have g1 := g.ext e1
    have ll : ((byL (Sa77.cutBytes S)).map V.int).length = (Sa77.cutBytes S).length := by rw [map_len, ints_len]
    walk_at "rd"
    refine rd_lenL f1 ?_
    rw [ll]
    walk_at "rd"
    refine rd_iteD (fun h4 => ?_) (fun h4 => ?_)
    · walk_at "rd"
      rename_i p hp
      refine k.at (S1 := S) (a := Sa77.ok (-1)) ?_ p L _ (g1.alloc hp) (g1.fr.dom _ hp) upd_same
      rw [if_pos (by omega)]
    rw [if_neg (by omega)] at k
    walk_at "rd"
    refine rd_lenL f1 ?_
    rw [ll]
    walk_at "rd"
    rename_i p2 hp2
    refine rd_cat (.inl upd_same) (.inl (Ext.alloc hp2 _ _ f1)) ?_ fun p3 hp3 => ?_
    · rw [ll]; simp only [List.length_cons, List.length_nil]; unfold sizeLine; omega
    walk_at "rd"
    exact k.at rfl p3 _ _ ((g1.alloc hp2).alloc hp3) ((g1.alloc hp2).fr.dom _ hp3) upd_same
def sp_as_bits (K : PySem.W.Frag) (_ : Adr) : Sp := fun vs H Q _ => ∃ (a : Addr) (l : List Bool), vs = [.ref a] ∧ SqL K H a (l.map V.bl) ∧ Q (.int (bitsB l : Nat)) H
theorem bitsB_drop {l : List Bool} {i : Nat} {b : Bool} (h : l[i]? = some b) : bitsB (l.drop i) = bitsB (l.drop (i + 1)) * 2 + Sa77.bit b := by
  obtain ⟨hi, e⟩ := List.getElem?_eq_some_iff.mp h
  rw [List.drop_eq_getElem_cons hi, e]
  rfl
theorem ok_as_bits (T : Txt K mg A) : FnOk P w K mg base CX0 (1) A.f_as_bits A.d_as_bits ["marks"] (sp_as_bits K A) := by
  refine T.g_as_bits.fn.ok sc_as_bits (fun vs H Q E h => ?_) (fun cdv A' outer s H vs Q E hr h => ?_)
  · obtain ⟨a, l, rfl, _⟩ := h
    rfl
  · obtain ⟨a, l, rfl, ha, k⟩ := h
    refine ⟨_, (pss_cons (ps_set (i := 1) sc_as_bits.nd rfl (Or.inl rfl) pe_int)
      (pss_cons (ps_for PassesOwn.never rfl (pi_reversed rfl T.b_reversed (pa_cons (pv 0) pa_nil)) (pg_name (i := 2) sc_as_bits.nd rfl (Or.inl rfl)) (pss_one (ps_set (i := 1) sc_as_bits.nd rfl (Or.inl rfl) (pe_op op_add (pe_op op_mul (pv 1) pe_int) (pe_ifExp (pt_val (pv 2)) pe_int pe_int)))))
      (pss_one (ps_ret (pv 1))))), ?_⟩
    try dsimp only [cxOf, Cx.nox, Cx.wish]
    walk_at "rd"
    show iRev _ _ _ _ _
    unfold iRev
    walk_at "rd"
    refine ⟨a, _, rfl, ha, ?_⟩
    refine for_rev (xs := l.map V.bl) (fun i σ' H' => ∃ x, σ' = [some (.ref a), some (.int (bitsB (l.drop (l.length - i)) : Nat)), x] ∧ H' = H) ?_ ?_ ?_ ?_
    · refine ⟨none, ?_, rfl⟩
      rw [Nat.sub_zero, List.drop_length]
      rfl
    · rintro i σ' H' ⟨x, _, rfl⟩
      exact ha
    · rintro i v σ' H' hi hv ⟨x, rfl, rfl⟩
      rw [List.length_map] at hi hv
      rw [List.getElem?_map] at hv
      obtain ⟨b, hb⟩ : ∃ b, l[l.length - 1 - i]? = some b := ⟨_, List.getElem?_eq_getElem (by omega)⟩
      rw [hb] at hv
      cases hv
      have e := bitsB_drop hb
      rw [show l.length - 1 - i + 1 = l.length - i by omega, show l.length - 1 - i = l.length - (i + 1) by omega] at e
      walk_at "rd"
      refine ⟨some (.bl b), ?_, rfl⟩
      rw [e]
      rfl
    · rintro σ' H' ⟨x, rfl, rfl⟩
      walk_at "rd"
      rw [List.length_map, Nat.sub_self, List.drop_zero]
      exact k
end
section
variable {P : Program} {w : World} {K : PySem.W.Frag} {mg : Str → Option Value} {base : Heap} {A : Adr}
def sp_dt_told (A : Adr) : Sp := fun vs H Q _ => ∃ h L S, vs = [.ref h] ∧ Rep A h L H S ∧ Wf 600 S ∧ AnsD A h L S H Q (Sa77.does (some S) .told)
set_option maxHeartbeats 4000000 in
theorem ok_dt_told (T : Txt K mg A) : FnOk P w K mg base CX0 (2) A.f_dt_told A.d_dt_told ["host"] (sp_dt_told A) := by
  refine T.g_dt_told.fn.ok sc_dt_told (fun vs H Q E h => ?_) (fun cdv A' outer s H vs Q E hr h => ?_)
  · obtain ⟨h, L, S, rfl, _⟩ := h
    rfl
  · obtain ⟨h, L, S, rfl, R, wf, k⟩ := h
    have g := R.run
    simp only [Sa77.does] at k
    rw [bits_eq wf.n16 wf.wants, bits_eq wf.n16 wf.owes] at k
    refine ⟨_, (pss_cons (ps_set (i := 1) sc_dt_told.nd rfl (Or.inl rfl) (pe_lst (pa_cons (pe_fld (pv 0) rfl) (pa_cons (pe_fld (pv 0) rfl) (pa_cons (pe_meth0 (pv 0) T.cl_Host T.m_Host_is_blocked.mt (ok_Host_is_blocked T) (hr.mono (by decide)) T.m_Host_is_blocked.bd .nil pass0) (pa_cons (pe_fld (pv 0) rfl) pa_nil))))))
      (pss_cons (ps_set (i := 2) sc_dt_told.nd rfl (Or.inl rfl) (pe_lst (pa_cons (pe_callB call_lenR (by rfl) T.b_len PySem.boot_len (pa_cons (pe_fld (pv 0) rfl) pa_nil)) (pa_cons (pe_callB call_lenR (by rfl) T.b_len PySem.boot_len (pa_cons (pe_fld (pv 0) rfl) pa_nil)) pa_nil))))
      (pss_one (ps_ret (pe_op op_catR (pe_op op_catR (pe_op op_catR (pe_lst (pa_cons pe_int pa_nil)) (pe_lc rfl sc_dt_told.nd (pi_list (pv 1)) (blkOk_by (own := [("state", 3)]) (by kernel_rfl)) (fun _ _ _ _ _ => pg_name (i := 3) sc_dt_told.nd rfl (Or.inl rfl)) (fun _ _ _ _ _ => pts_nil) (fun _ _ _ _ _ => (pe_ifExp (pt_val (pv 3)) pe_int pe_int)))) (pv 2)) (pe_lst (pa_cons (pe_call (ok_as_bits T) (hr.mono (by decide)) rfl T.g_as_bits.mg T.g_as_bits.fn.kp T.g_as_bits.bd .nil pass0 (pa_cons (pe_fld (pv 0) rfl) pa_nil)) (pa_cons (pe_call (ok_as_bits T) (hr.mono (by decide)) rfl T.g_as_bits.mg T.g_as_bits.fn.kp T.g_as_bits.bd .nil pass0 (pa_cons (pe_fld (pv 0) rfl) pa_nil)) pa_nil)))))))), ?_⟩
    try dsimp only [cxOf, Cx.nox, Cx.wish]
    walk_at "rd"
    refine ⟨h, L, S, rfl, R, wf.wants, ?_⟩
    walk_at "rd"
    rename_i p0 hp0
    have g0 := g.alloc (o := .lst [.bl S.active, .bl S.found, .bl (S.wants != []), .bl S.locked]) hp0
    walk_at "rd"
    rename_i p1 hp1 p2 hp2
    have g1 := g0.alloc (o := .lst [.int S.out.length, .int S.inbox.length]) hp1
    have g2 := g1.alloc (o := .lst [.int 0]) hp2
    have f0 := Ext.alloc (o := .lst [.int 0]) hp2 _ _ (Ext.alloc (o := .lst [.int S.out.length, .int S.inbox.length]) hp1 _ _ (upd_same (H := H) (a := p0) (o := .lst [.bl S.active, .bl S.found, .bl (S.wants != []), .bl S.locked])))
    have f1 := Ext.alloc (o := .lst [.int 0]) hp2 _ _ (upd_same (a := p1) (o := .lst [.int S.out.length, .int S.inbox.length]) (H := upd H p0 (.lst [.bl S.active, .bl S.found, .bl (S.wants != []), .bl S.locked])))
    have f2 := upd_same (a := p2) (o := .lst [.int 0]) (H := upd (upd H p0 (.lst [.bl S.active, .bl S.found, .bl (S.wants != []), .bl S.locked])) p1 (.lst [.int S.out.length, .int S.inbox.length]))
    generalize upd (upd (upd H p0 (.lst [.bl S.active, .bl S.found, .bl (S.wants != []), .bl S.locked])) p1 (.lst [.int S.out.length, .int S.inbox.length])) p2 (.lst [.int 0]) = H2 at g2 f0 f1 f2 ⊢
    refine rd_ilist (a := p0) (xs := [S.active, S.found, S.wants != [], S.locked].map V.bl) ?_ (fun Q1 Q2 hq h => by obtain ⟨v, h1, h2⟩ := h; exact ⟨v, h1, hq _ _ h2⟩)
    walk_at "rd"
    refine ⟨rfl, SqL.of f0, fun D hD => ?_⟩
    refine lc_list (xs := [S.active, S.found, S.wants != [], S.locked].map V.bl) (fun i H' => H' = upd H2 D (.lst ((([S.active, S.found, S.wants != [], S.locked].take i).map fun b => V.int (Sa77.bit b : Nat))))) rfl (fun i H' _ e => ?_) ?_ ?_
    · rw [e]; exact SqL.of (Ext.alloc hD _ _ f0)
    · rintro i v _ hv rfl
      rw [List.getElem?_map] at hv
      cases q : [S.active, S.found, S.wants != [], S.locked][i]? with
      | none => rw [q] at hv; cases hv
      | some b =>
        rw [q] at hv
        cases hv
        walk_at "rd"
        refine ⟨rfl, ?_⟩
        walk_at "rd"
        refine ⟨_, upd_same, ?_, ?_⟩
        · rw [List.length_map, List.length_take]; have := line_big; simp only [List.length_cons, List.length_nil]; omega
        · rw [upd_upd, List.take_add_one, q, List.map_append]; rfl
    rintro _ rfl
    have g3 := g2.alloc (o := .lst ((([S.active, S.found, S.wants != [], S.locked].take 4).map fun b => V.int (Sa77.bit b : Nat)))) hD
    have d1 := Ext.alloc (o := .lst ((([S.active, S.found, S.wants != [], S.locked].take 4).map fun b => V.int (Sa77.bit b : Nat)))) hD _ _ f1
    have d2 := Ext.alloc (o := .lst ((([S.active, S.found, S.wants != [], S.locked].take 4).map fun b => V.int (Sa77.bit b : Nat)))) hD _ _ f2
    walk_at "rd"
    refine rd_cat (.inl d2) (.inl upd_same) (Nat.le_trans (m := 6) (Nat.le_of_ble_eq_true rfl) (Nat.le_trans (by decide) line_big)) fun p3 hp3 => ?_
    walk_at "rd"
    refine rd_cat (.inl upd_same) (.inl (Ext.alloc hp3 _ _ d1)) (Nat.le_trans (m := 8) (Nat.le_of_ble_eq_true rfl) (Nat.le_trans (by decide) line_big)) fun p4 hp4 => ?_
    walk_at "rd"
    refine hg_waits T (g3.ext ((Ext.alloc hp3).trans (Ext.alloc hp4))) ?_
    walk_at "rd"
    refine ⟨_, blB S.n S.wants, rfl, SqL.of (Ext.alloc hp4 _ _ (Ext.alloc hp3 _ _ (g3.rep.co .waits trivial))), ?_⟩
    walk_at "rd"
    refine hg_owes T (g3.ext ((Ext.alloc hp3).trans (Ext.alloc hp4))) ?_
    walk_at "rd"
    refine ⟨_, blB S.n S.owes, rfl, SqL.of (Ext.alloc hp4 _ _ (Ext.alloc hp3 _ _ (g3.rep.co .owes trivial))), ?_⟩
    walk_at "rd"
    rename_i p5 hp5
    refine rd_cat (.inl (by rw [upd_ne (ne_of_none upd_same hp5)]; exact upd_same)) (.inl upd_same) (Nat.le_trans (m := 10) (Nat.le_of_ble_eq_true rfl) (Nat.le_trans (by decide) line_big)) fun p6 hp6 => ?_
    walk_at "rd"
    refine k.at rfl p6 _ _ (g3.ext ((((Ext.alloc hp3).trans (Ext.alloc hp4)).trans (Ext.alloc hp5)).trans (Ext.alloc hp6))) (g3.fr.dom _ (upd_dom (upd_dom (upd_dom hp6)))) ?_
    rw [upd_same]
    rfl
end
theorem nn {G : Hp} {h p : Addr} {X : HO} (e : upd G h X p = none) : G p = none ∧ h ≠ p := ⟨upd_dom e, fun z => by rw [← z, upd_same] at e; cases e⟩
theorem lp {f : Str} {v : V} {fs : List (Str × V)} {n : Nat} (h : fs.length < n) : (putF f v fs).length < n + 1 := Nat.lt_of_le_of_lt (length_putF f v fs) (Nat.succ_lt_succ h)
theorem rd_bput {K : PySem.W.Frag} {C a dx : Addr} {f : Str} {v : V} {fs : List (Str × V)} {G : Hp} {N : Hp → Prop} (cl : Cls K C) (na : NoAttr K C f) (l : fs.length < 1000) (h : N (upd G a (.ins C dx (putF f v fs)))) : kPut K f v (.ref a) (upd G a (.ins C dx fs)) N :=
  rd_kPut upd_same cl na l (by rw [upd_upd]; exact h)
section
variable {P : Program} {w : World} {K : PySem.W.Frag} {mg : Str → Option Value} {base : Heap} {A : Adr}
def NewHost (A : Adr) (h : Addr) (H : Hp) (Q : VK) (S : SS) : Prop := ∀ L' H', Rep A h L' H' S → (∀ a o, H a = some o → a ≠ h → H' a = some o) → (∀ t, onT S t → L'.ad t = h ∨ H (L'.ad t) = none) → (∀ a, H' a = none → H a = none) → Q .non H'
def sp_Host_begin (A : Adr) : Sp := fun vs H Q _ => ∃ (h dx : Addr) (fs : List (Str × V)) (me n : Nat) (act : Bool), vs = [.ref h, .int me, .int n, .bl act] ∧ H h = some (.ins A.c_Host dx fs) ∧ (fs = [] ∨ ∃ x, fs = fHost x) ∧ n ≤ 16 ∧ NewHost A h H Q (Sa77.begun me n act)
def adNew (h po pw pr pc d1 d2 pk : Addr) : Tag → Addr
  | .host => h
  | .out => po
  | .works => pw
  | .records => pr
  | .recordings => pc
  | .waits => d1
  | .owes => d2
  | .counted => pk
  | _ => 0
set_option maxHeartbeats 8000000 in
theorem ok_Host_begin (T : Txt K mg A) : FnOk P w K mg base CX0 (1) A.f_Host_begin A.d_Host_begin ["self", "me", "n", "active"] (sp_Host_begin A) := by
  refine T.m_Host_begin.fn.ok sc_Host_begin (fun vs H Q E h => ?_) (fun cdv A' outer s H vs Q E hr h => ?_)
  · obtain ⟨h, dx, fs, me, n, act, rfl, _⟩ := h
    rfl
  · obtain ⟨h, dx, fs, me, n, act, rfl, hh, hfs, hn, k⟩ := h
    have l0 : fs.length < 900 := by
      rcases hfs with rfl | ⟨x, rfl⟩
      · simp
      · exact Nat.le_of_ble_eq_true rfl
    refine ⟨_, (pss_cons (ps_fld (pv 0) (pv 1) rfl)
      (pss_cons (ps_fld (pv 0) (pv 2) rfl)
      (pss_cons (ps_fld (pv 0) (pv 3) rfl)
      (pss_cons (ps_fld (pv 0) (pe_frz (pe_lst pa_nil)) rfl)
      (pss_cons (ps_fld (pv 0) (pe_lst pa_nil) rfl)
      (pss_cons (ps_fld (pv 0) (pe_lst pa_nil) rfl)
      (pss_cons (ps_fld (pv 0) pe_int rfl)
      (pss_cons (ps_fld (pv 0) pe_bl rfl)
      (pss_cons (ps_fld (pv 0) pe_bl rfl)
      (pss_cons (ps_fld (pv 0) pe_non rfl)
      (pss_cons (ps_fld (pv 0) pe_bl rfl)
      (pss_cons (ps_fld (pv 0) pe_int rfl)
      (pss_cons (ps_fld (pv 0) pe_dnewK rfl)
      (pss_cons (ps_fld (pv 0) pe_dnewK rfl)
      (pss_cons (ps_fld (pv 0) (pe_lc rfl sc_Host_begin.nd (pi_range1 rfl T.b_range (pa_cons (pv 2) pa_nil)) (blkOk_by (own := [("host", 4)]) (by kernel_rfl)) (fun _ _ _ _ _ => pg_name (i := 4) sc_Host_begin.nd rfl (Or.inl rfl)) (fun _ _ _ _ _ => pts_nil) (fun _ _ _ _ _ => pe_bl)) rfl)
      (pss_cons (ps_fld (pv 0) (pe_lc rfl sc_Host_begin.nd (pi_range1 rfl T.b_range (pa_cons (pv 2) pa_nil)) (blkOk_by (own := [("host", 4)]) (by kernel_rfl)) (fun _ _ _ _ _ => pg_name (i := 4) sc_Host_begin.nd rfl (Or.inl rfl)) (fun _ _ _ _ _ => pts_nil) (fun _ _ _ _ _ => pe_bl)) rfl)
      (pss_cons (ps_fld (pv 0) pe_int rfl)
      (pss_cons (ps_fld (pv 0) pe_dnewK rfl)
      (pss_one (ps_fld (pv 0) pe_bl rfl)))))))))))))))))))), ?_⟩
    try dsimp only [cxOf, Cx.nox, Cx.wish]
    walk_at "rd"
    refine rd_kPut hh T.cl_Host T.na_Host_me (Nat.lt_of_lt_of_le l0 (by decide)) ?_
    have l1 := lp (f := "me") (v := .int me) l0
    walk_at "rd"
    refine rd_bput T.cl_Host T.na_Host_n (Nat.lt_of_lt_of_le l1 (by decide)) ?_
    have l2 := lp (f := "n") (v := .int n) l1
    walk_at "rd"
    refine rd_bput T.cl_Host T.na_Host_active (Nat.lt_of_lt_of_le l2 (by decide)) ?_
    have l3 := lp (f := "active") (v := .bl act) l2
    walk_at "rd"
    rename_i ps hps
    refine rd_kFrzN fun od => ?_
    obtain ⟨ns, hs⟩ := nn hps
    rw [upd_comm hs]
    walk_at "rd"
    refine rd_bput T.cl_Host T.na_Host_state (Nat.lt_of_lt_of_le l3 (by decide)) ?_
    have l4 := lp (f := "state") (v := .ref ps) l3
    have fs1 := upd_same (H := H) (a := ps) (o := .frz od (.lst []))
    have e1 := Ext.alloc (o := .frz od (.lst [])) ns
    generalize upd H ps (.frz od (.lst [])) = G1 at fs1 e1 ⊢
    walk_at "rd"
    rename_i po hpo
    obtain ⟨no, ho⟩ := nn hpo
    rw [upd_comm ho]
    refine rd_bput T.cl_Host T.na_Host_outgoing (Nat.lt_of_lt_of_le l4 (by decide)) ?_
    have l5 := lp (f := "outgoing") (v := .ref po) l4
    have fo := upd_same (H := G1) (a := po) (o := .lst [])
    have e2 := Ext.alloc (o := .lst []) no
    generalize upd G1 po (.lst []) = G2 at fo e2 ⊢
    walk_at "rd"
    rename_i pw hpw
    obtain ⟨nw, hw⟩ := nn hpw
    rw [upd_comm hw]
    refine rd_bput T.cl_Host T.na_Host_works (Nat.lt_of_lt_of_le l5 (by decide)) ?_
    have l6 := lp (f := "works") (v := .ref pw) l5
    have fw := upd_same (H := G2) (a := pw) (o := .lst [])
    have e3 := Ext.alloc (o := .lst []) nw
    generalize upd G2 pw (.lst []) = G3 at fw e3 ⊢
    walk_at "rd"
    refine rd_bput T.cl_Host T.na_Host_balance (Nat.lt_of_lt_of_le l6 (by decide)) ?_
    have l7 := lp (f := "balance") (v := .int 0) l6
    walk_at "rd"
    refine rd_bput T.cl_Host T.na_Host_black (Nat.lt_of_lt_of_le l7 (by decide)) ?_
    have l8 := lp (f := "black") (v := .bl false) l7
    walk_at "rd"
    refine rd_bput T.cl_Host T.na_Host_watching (Nat.lt_of_lt_of_le l8 (by decide)) ?_
    have l9 := lp (f := "watching") (v := .bl false) l8
    walk_at "rd"
    refine rd_bput T.cl_Host T.na_Host_token (Nat.lt_of_lt_of_le l9 (by decide)) ?_
    have l10 := lp (f := "token") (v := .non) l9
    walk_at "rd"
    refine rd_bput T.cl_Host T.na_Host_found (Nat.lt_of_lt_of_le l10 (by decide)) ?_
    have l11 := lp (f := "found") (v := .bl false) l10
    walk_at "rd"
    refine rd_bput T.cl_Host T.na_Host_cut_number (Nat.lt_of_lt_of_le l11 (by decide)) ?_
    have l12 := lp (f := "cut_number") (v := .int 0) l11
    walk_at "rd"
    intro pr hpr
    obtain ⟨nr, hr1⟩ := nn hpr
    rw [upd_comm hr1]
    walk_at "rd"
    refine rd_bput T.cl_Host T.na_Host_records (Nat.lt_of_lt_of_le l12 (by decide)) ?_
    have l13 := lp (f := "records") (v := .ref pr) l12
    have fr := upd_same (H := G3) (a := pr) (o := .dK [])
    have e4 := Ext.alloc (o := .dK []) nr
    generalize upd G3 pr (.dK []) = G4 at fr e4 ⊢
    walk_at "rd"
    intro pc hpc
    obtain ⟨nc, hc1⟩ := nn hpc
    rw [upd_comm hc1]
    walk_at "rd"
    refine rd_bput T.cl_Host T.na_Host_recordings (Nat.lt_of_lt_of_le l13 (by decide)) ?_
    have l14 := lp (f := "recordings") (v := .ref pc) l13
    have fc := upd_same (H := G4) (a := pc) (o := .dK [])
    have e5 := Ext.alloc (o := .dK []) nc
    generalize upd G4 pc (.dK []) = G5 at fc e5 ⊢
    walk_at "rd"
    refine rd_kRng hn ?_
    intro d1 hd1
    obtain ⟨n1, h1⟩ := nn hd1
    refine lc_range (n := n) (fun i H' => H' = upd (upd G5 h _) d1 (.lst ((List.range i).map fun _ => V.bl false))) rfl ?_ ?_
    · rintro i _ hi rfl
      walk_at "rd"
      refine ⟨rfl, ?_⟩
      walk_at "rd"
      refine ⟨_, upd_same, by rw [List.length_map, List.length_range]; have := line_big; omega, ?_⟩
      rw [upd_upd, List.range_succ, List.map_append]; rfl
    rintro _ rfl
    rw [upd_comm h1]
    walk_at "rd"
    refine rd_bput T.cl_Host T.na_Host_waits (Nat.lt_of_lt_of_le l14 (by decide)) ?_
    have l15 := lp (f := "waits") (v := .ref d1) l14
    have f1 := upd_same (H := G5) (a := d1) (o := .lst ((List.range n).map fun _ => V.bl false))
    have e6 := Ext.alloc (o := .lst ((List.range n).map fun _ => V.bl false)) n1
    generalize upd G5 d1 (.lst ((List.range n).map fun _ => V.bl false)) = G6 at f1 e6 ⊢
    walk_at "rd"
    refine rd_kRng hn ?_
    intro d2 hd2
    obtain ⟨n2, h2⟩ := nn hd2
    refine lc_range (n := n) (fun i H' => H' = upd (upd G6 h _) d2 (.lst ((List.range i).map fun _ => V.bl false))) rfl ?_ ?_
    · rintro i _ hi rfl
      walk_at "rd"
      refine ⟨rfl, ?_⟩
      walk_at "rd"
      refine ⟨_, upd_same, by rw [List.length_map, List.length_range]; have := line_big; omega, ?_⟩
      rw [upd_upd, List.range_succ, List.map_append]; rfl
    rintro _ rfl
    rw [upd_comm h2]
    walk_at "rd"
    refine rd_bput T.cl_Host T.na_Host_owes (Nat.lt_of_lt_of_le l15 (by decide)) ?_
    have l16 := lp (f := "owes") (v := .ref d2) l15
    have f2 := upd_same (H := G6) (a := d2) (o := .lst ((List.range n).map fun _ => V.bl false))
    have e7 := Ext.alloc (o := .lst ((List.range n).map fun _ => V.bl false)) n2
    generalize upd G6 d2 (.lst ((List.range n).map fun _ => V.bl false)) = G7 at f2 e7 ⊢
    walk_at "rd"
    refine rd_bput T.cl_Host T.na_Host_suspect_number (Nat.lt_of_lt_of_le l16 (by decide)) ?_
    have l17 := lp (f := "suspect_number") (v := .int 0) l16
    walk_at "rd"
    intro pk hpk
    obtain ⟨nk, hk⟩ := nn hpk
    rw [upd_comm hk]
    walk_at "rd"
    refine rd_bput T.cl_Host T.na_Host_counted (Nat.lt_of_lt_of_le l17 (by decide)) ?_
    have l18 := lp (f := "counted") (v := .ref pk) l17
    have fk := upd_same (H := G7) (a := pk) (o := .dK [])
    have e8 := Ext.alloc (o := .dK []) nk
    generalize upd G7 pk (.dK []) = G8 at fk e8 ⊢
    walk_at "rd"
    refine rd_bput T.cl_Host T.na_Host_locked (Nat.lt_of_lt_of_le l18 (by decide)) ?_
    have l19 := lp (f := "locked") (v := .bl false) l18
    walk_at "rd"
    have ef : putF "locked" (.bl false) (putF "counted" (.ref pk) (putF "suspect_number" (.int 0) (putF "owes" (.ref d2) (putF "waits" (.ref d1) (putF "recordings" (.ref pc) (putF "records" (.ref pr) (putF "cut_number" (.int 0) (putF "found" (.bl false) (putF "token" .non (putF "watching" (.bl false) (putF "black" (.bl false) (putF "balance" (.int 0) (putF "works" (.ref pw) (putF "outgoing" (.ref po) (putF "state" (.ref ps) (putF "active" (.bl act) (putF "n" (.int n) (putF "me" (.int me) fs)))))))))))))))))) =
        fHost { me_ := me, n_ := n, active_ := act, state_ := ps, outgoing_ := po, works_ := pw, balance_ := 0, black_ := false, watching_ := false, token_ := .non, found_ := false, cut_number_ := 0, records_ := pr, recordings_ := pc, waits_ := d1, owes_ := d2, suspect_number_ := 0, counted_ := pk, locked_ := false } := by
      rcases hfs with rfl | ⟨x, rfl⟩
      · kernel_rfl
      · kernel_rfl
    rw [ef]
    have E8 := ((((((e1.trans e2).trans e3).trans e4).trans e5).trans e6).trans e7).trans e8
    have o8 := e8 _ _ (e7 _ _ (e6 _ _ (e5 _ _ (e4 _ _ (e3 _ _ fo)))))
    have w8 := e8 _ _ (e7 _ _ (e6 _ _ (e5 _ _ (e4 _ _ fw))))
    have r8 := e8 _ _ (e7 _ _ (e6 _ _ (e5 _ _ fr)))
    have c8 := e8 _ _ (e7 _ _ (e6 _ _ fc))
    have a8 := e8 _ _ (e7 _ _ f1)
    have b8 := e8 _ _ f2
    have s8 := e8 _ _ (e7 _ _ (e6 _ _ (e5 _ _ (e4 _ _ (e3 _ _ (e2 _ _ fs1))))))
    have x1 : po ≠ pw := ne_of_none fo nw
    have x2 : po ≠ pr := ne_of_none (e3 _ _ fo) nr
    have x3 : po ≠ pc := ne_of_none (e4 _ _ (e3 _ _ fo)) nc
    have x4 : po ≠ d1 := ne_of_none (e5 _ _ (e4 _ _ (e3 _ _ fo))) n1
    have x5 : po ≠ d2 := ne_of_none (e6 _ _ (e5 _ _ (e4 _ _ (e3 _ _ fo)))) n2
    have x6 : po ≠ pk := ne_of_none (e7 _ _ (e6 _ _ (e5 _ _ (e4 _ _ (e3 _ _ fo))))) nk
    have y2 : pw ≠ pr := ne_of_none fw nr
    have y3 : pw ≠ pc := ne_of_none (e4 _ _ fw) nc
    have y4 : pw ≠ d1 := ne_of_none (e5 _ _ (e4 _ _ fw)) n1
    have y5 : pw ≠ d2 := ne_of_none (e6 _ _ (e5 _ _ (e4 _ _ fw))) n2
    have y6 : pw ≠ pk := ne_of_none (e7 _ _ (e6 _ _ (e5 _ _ (e4 _ _ fw)))) nk
    have z3 : pr ≠ pc := ne_of_none fr nc
    have z4 : pr ≠ d1 := ne_of_none (e5 _ _ fr) n1
    have z5 : pr ≠ d2 := ne_of_none (e6 _ _ (e5 _ _ fr)) n2
    have z6 : pr ≠ pk := ne_of_none (e7 _ _ (e6 _ _ (e5 _ _ fr))) nk
    have u4 : pc ≠ d1 := ne_of_none fc n1
    have u5 : pc ≠ d2 := ne_of_none (e6 _ _ fc) n2
    have u6 : pc ≠ pk := ne_of_none (e7 _ _ (e6 _ _ fc)) nk
    have v5 : d1 ≠ d2 := ne_of_none f1 n2
    have v6 : d1 ≠ pk := ne_of_none (e7 _ _ f1) nk
    have t6 : d2 ≠ pk := ne_of_none f2 nk
    have keep : ∀ {a : Addr} {o : HO}, G8 a = some o → h ≠ a → upd G8 h (.ins A.c_Host dx (fHost { me_ := me, n_ := n, active_ := act, state_ := ps, outgoing_ := po, works_ := pw, balance_ := 0, black_ := false, watching_ := false, token_ := .non, found_ := false, cut_number_ := 0, records_ := pr, recordings_ := pc, waits_ := d1, owes_ := d2, suspect_number_ := 0, counted_ := pk, locked_ := false })) a = some o := fun {a o} e q => by rw [upd_ne (Ne.symm q)]; exact e
    refine k { ad := adNew h po pw pr pc d1 d2 pk, hdx := dx, tdx := 0, rdx := fun _ => 0, st := ps, vo := [], vw := [], kr := [], kc := [], rst := fun _ => 0, rvs := fun _ => [] } _ ⟨rfl, fun t ht => ?_, fun t t' ht ht' e => ?_, ?_⟩ (fun a o e ne => ?_) (fun t ht => ?_) (fun a e => E8.none (upd_dom e))
    · cases t with
      | host => exact upd_same
      | out => exact keep o8 ho
      | works => exact keep w8 hw
      | records => exact keep r8 hr1
      | recordings => exact keep c8 hc1
      | waits => refine (keep a8 h1).trans ?_; show _ = some (HO.lst ((blB n []).map V.bl)); rw [blB_nil, List.map_map]; rfl
      | owes => refine (keep b8 h2).trans ?_; show _ = some (HO.lst ((blB n []).map V.bl)); rw [blB_nil, List.map_map]; rfl
      | counted => exact keep fk hk
      | tok => exact absurd rfl ht
      | rcd w => exact absurd rfl ht
      | rway w => exact absurd rfl ht
      | rwrk w => exact absurd rfl ht
    · cases t <;> first
        | exact absurd rfl ht
        | (cases t' <;> first | rfl | exact absurd rfl ht' | exact absurd e (by assumption) | exact absurd e.symm (by assumption))
    · refine ⟨⟨od, keep s8 hs⟩, .nil, .nil, .nil, ⟨rfl, fun w => rfl⟩, fun w r e => (nomatch e), fun w r e => (nomatch e)⟩
    · rw [upd_ne ne]; exact E8 _ _ e
    · cases t with
      | host => exact .inl rfl
      | out => exact .inr (e1.none no)
      | works => exact .inr ((e1.trans e2).none nw)
      | records => exact .inr (((e1.trans e2).trans e3).none nr)
      | recordings => exact .inr ((((e1.trans e2).trans e3).trans e4).none nc)
      | waits => exact .inr (((((e1.trans e2).trans e3).trans e4).trans e5).none n1)
      | owes => exact .inr ((((((e1.trans e2).trans e3).trans e4).trans e5).trans e6).none n2)
      | counted => exact .inr (((((((e1.trans e2).trans e3).trans e4).trans e5).trans e6).trans e7).none nk)
      | tok => exact absurd rfl ht
      | rcd w => exact absurd rfl ht
      | rway w => exact absurd rfl ht
      | rwrk w => exact absurd rfl ht
end
theorem cut_row (xs : List V) (i n : Nat) (h : i + n ≤ xs.length) : cutV xs (some (i : Int)) (some ((i : Int) + (n : Int))) = (xs.drop i).take n := by
  unfold cutV
  rw [show ((i : Int) + (n : Int)) = ((i + n : Nat) : Int) by omega, HT.sIx_nat, HT.sIx_nat, Nat.min_eq_left (by omega), Nat.min_eq_left (by omega)]
  congr 1
  omega
section
variable {P : Program} {w : World} {K : PySem.W.Frag} {mg : Str → Option Value} {base : Heap} {A : Adr}
def sp_Host_init (A : Adr) : Sp := fun vs H Q _ => ∃ (h dx : Addr), vs = [.ref h] ∧ H h = some (.ins A.c_Host dx []) ∧ NewHost A h H Q (Sa77.begun 0 0 false)
theorem ok_Host_init (T : Txt K mg A) : FnOk P w K mg base CX0 (2) A.f_Host_init A.d_Host_init ["self"] (sp_Host_init A) := by
  refine T.m_Host_init.fn.ok sc_Host_init (fun vs H Q E h => ?_) (fun cdv A' outer s H vs Q E hr h => ?_)
  · obtain ⟨h, dx, rfl, _⟩ := h
    rfl
  · obtain ⟨h, dx, rfl, hh, k⟩ := h
    refine ⟨_, (pss_one (ps_expr (pe_meth (pv 0) T.cl_Host T.m_Host_begin.mt (ok_Host_begin T) (hr.mono (by decide)) T.m_Host_begin.bd .nil pass0 (pa_cons pe_int (pa_cons pe_int (pa_cons pe_bl pa_nil)))))), ?_⟩
    try dsimp only [cxOf, Cx.nox, Cx.wish]
    walk_at "rd"
    refine rd_kMeth hh rfl ?_
    walk_at "rd"
    refine ⟨h, dx, [], 0, 0, false, rfl, hh, .inl rfl, by decide, fun L' H' a b c d => ?_⟩
    walk_at "rd"
    exact k L' H' a b c d
def sp_dt_begin (A : Adr) : Sp := fun vs H Q _ => ∃ h L S me n z, vs = [.ref h, .int me, .int n, .int z] ∧ Rep A h L H S ∧ (okB me n = false → AnsP A h L S H Q S [-2]) ∧ (okB me n = true → AnsP A h L S H Q (Sa77.begun me.toNat n.toNat (z != 0)) [0])
theorem ok_dt_begin (T : Txt K mg A) : FnOk P w K mg base CX0 (2) A.f_dt_begin A.d_dt_begin ["host", "me", "n", "active"] (sp_dt_begin A) := by
  refine T.g_dt_begin.fn.ok sc_dt_begin (fun vs H Q E h => ?_) (fun cdv A' outer s H vs Q E hr h => ?_)
  · obtain ⟨h, L, S, me, n, z, rfl, _⟩ := h
    rfl
  · obtain ⟨h, L, S, me, n, z, rfl, R, k1, k2⟩ := h
    have g := R.run
    have no : ¬ (2 ≤ n ∧ n ≤ 16 ∧ 0 ≤ me ∧ me < n) → AnsP A h L S H Q S [-2] := fun q => k1 (ff_of fun y => q (by
      unfold okB at y
      rw [Bool.and_eq_true, within_iff, within_iff] at y
      omega))
    refine ⟨_, (pss_cons (ps_if (PW.pt (pw_or (pt_cmpR op_lt (pv 2) pe_int (nomark _)) (pw_or (pt_cmpR op_gt (pv 2) (pe_glob (v := .int (16)) rfl T.k_MOST_HOSTS ⟨_, rfl⟩) (nomark _)) (pw_or (pt_cmpR op_lt (pv 1) pe_int (nomark _)) (pw_or1 (pt_cmpR op_ge (pv 1) (pv 2) (nomark _))))))) (pss_one (ps_ret (pe_lst (pa_cons (pe_glob (v := .int (-2)) rfl T.k_WRONG ⟨_, rfl⟩) pa_nil)))) pss_nil)
      (pss_cons (ps_expr (pe_meth (pv 0) T.cl_Host T.m_Host_begin.mt (ok_Host_begin T) (hr.mono (by decide)) T.m_Host_begin.bd .nil pass0 (pa_cons (pv 1) (pa_cons (pv 2) (pa_cons (pe_cmpR op_ne (pv 3) pe_int (nomark _)) pa_nil)))))
      (pss_one (ps_ret (pe_lst (pa_cons pe_int pa_nil)))))), ?_⟩
    try dsimp only [cxOf, Cx.nox, Cx.wish]
    walk_at "rd"
    refine rd_iteD (fun h1 => ?_) (fun h1 => ?_)
    · walk_at "rd"
      rename_i p hp
      exact no (by omega) p L _ (g.alloc hp) (g.fr.dom _ hp) upd_same
    walk_at "rd"
    refine rd_iteD (fun h2 => ?_) (fun h2 => ?_)
    · walk_at "rd"
      rename_i p hp
      exact no (by omega) p L _ (g.alloc hp) (g.fr.dom _ hp) upd_same
    walk_at "rd"
    refine rd_iteD (fun h3 => ?_) (fun h3 => ?_)
    · walk_at "rd"
      rename_i p hp
      exact no (by omega) p L _ (g.alloc hp) (g.fr.dom _ hp) upd_same
    walk_at "rd"
    refine rd_iteD (fun h4 => ?_) (fun h4 => ?_)
    · walk_at "rd"
      rename_i p hp
      exact no (by omega) p L _ (g.alloc hp) (g.fr.dom _ hp) upd_same
    have k := k2 (by unfold okB; rw [Bool.and_eq_true, within_iff, within_iff]; omega)
    walk_at "rd"
    refine ⟨h, _, _, me.toNat, n.toNat, z != 0, ?_, R.host, .inr ⟨_, rfl⟩, by omega, fun L' H' r1 kp own dom => ?_⟩
    · rw [Int.toNat_of_nonneg (by omega), Int.toNat_of_nonneg (by omega)]
      have : (!decide (z = 0)) = (z != 0) := by by_cases q : z = 0 <;> simp [q]
      rw [this]
    have g1 : Run A h L S H L' H' (Sa77.begun me.toNat n.toNat (z != 0)) := by
      refine ⟨r1, fun a o e ha => kp a o e (fun q => ha .host trivial (by rw [R.hh]; exact q.symm)), fun t ht => ?_, dom, ⟨fun a o u e => kp a _ e ?_, fun a xs e => kp a _ e ?_⟩⟩
      · rcases own t ht with q | q
        · exact .inl ⟨.host, trivial, by rw [R.hh]; exact q.symm⟩
        · exact .inr q
      · exact ne_of e R.host (fun z => nomatch z)
      · exact ne_of e R.host (fun z => nomatch z)
    walk_at "rd"
    rename_i p hp
    exact k p _ _ (g1.alloc hp) (g1.fr.dom _ hp) upd_same
abbrev rdO (A : Adr) (dx l : Addr) (i : Nat) : HO := .ins A.c_Reader dx (fReader { numbers_ := l, at_ := (i : Int) })
def sp_Reader_init (A : Adr) : Sp := fun vs H Q _ => ∃ (r dx l : Addr), vs = [.ref r, .ref l] ∧ H r = some (.ins A.c_Reader dx []) ∧ Q .non (upd H r (rdO A dx l 0))
theorem ok_Reader_init (T : Txt K mg A) : FnOk P w K mg base CX0 (1) A.f_Reader_init A.d_Reader_init ["self", "numbers"] (sp_Reader_init A) := by
  refine T.m_Reader_init.fn.ok sc_Reader_init (fun vs H Q E h => ?_) (fun cdv A' outer s H vs Q E hr h => ?_)
  · obtain ⟨r, dx, l, rfl, _⟩ := h
    rfl
  · obtain ⟨r, dx, l, rfl, hh, k⟩ := h
    refine ⟨_, (pss_cons (ps_fld (pv 0) (pv 1) rfl)
      (pss_one (ps_fld (pv 0) pe_int rfl))), ?_⟩
    try dsimp only [cxOf, Cx.nox, Cx.wish]
    walk_at "rd"
    refine rd_kPut hh T.cl_Reader T.na_Reader_numbers (Nat.le_of_ble_eq_true rfl) ?_
    walk_at "rd"
    refine rd_kPut upd_same T.cl_Reader T.na_Reader_at (Nat.le_of_ble_eq_true rfl) ?_
    rw [upd_upd]
    walk_at "rd"
    exact k
def sp_Reader_has_more (K : PySem.W.Frag) (A : Adr) : Sp := fun vs H Q _ => ∃ (r dx l : Addr) (i : Nat) (ns : List Int), vs = [.ref r] ∧ H r = some (rdO A dx l i) ∧ SqL K H l (ns.map V.int) ∧ Q (.bl (decide (i < ns.length))) H
theorem ok_Reader_has_more (T : Txt K mg A) : FnOk P w K mg base CX0 (1) A.f_Reader_has_more A.d_Reader_has_more ["self"] (sp_Reader_has_more K A) := by
  refine T.m_Reader_has_more.fn.ok sc_Reader_has_more (fun vs H Q E h => ?_) (fun cdv A' outer s H vs Q E hr h => ?_)
  · obtain ⟨r, dx, l, i, ns, rfl, _⟩ := h
    rfl
  · obtain ⟨r, dx, l, i, ns, rfl, hr1, hl, k⟩ := h
    refine ⟨_, (pss_one (ps_ret (pe_cmpR op_lt (pe_fld (pv 0) rfl) (pe_callB call_lenR (by rfl) T.b_len PySem.boot_len (pa_cons (pe_fld (pv 0) rfl) pa_nil)) (nomark _)))), ?_⟩
    try dsimp only [cxOf, Cx.nox, Cx.wish]
    walk_at "rd"
    refine g_Reader_at T ⟨_, _, hr1, ?_⟩
    walk_at "rd"
    refine g_Reader_numbers T ⟨_, _, hr1, ?_⟩
    walk_at "rd"
    refine ⟨_, _, rfl, .inl hl, ?_⟩
    walk_at "rd"
    exact eqB k (by rw [map_len]; apply decide_eq_decide.mpr; show i < ns.length ↔ (i : Int) < (ns.length : Int); omega)
def sp_Reader_take_number (K : PySem.W.Frag) (A : Adr) : Sp := fun vs H Q _ => ∃ (r l dx : Addr) (i : Nat) (ns : List Int) (z : Int), vs = [.ref r] ∧ H r = some (rdO A dx l i) ∧ SqL K H l (ns.map V.int) ∧ ns[i]? = some z ∧ Q (.int z) (upd H r (rdO A dx l (i + 1)))
theorem ok_Reader_take_number (T : Txt K mg A) : FnOk P w K mg base CX0 (1) A.f_Reader_take_number A.d_Reader_take_number ["self"] (sp_Reader_take_number K A) := by
  refine T.m_Reader_take_number.fn.ok sc_Reader_take_number (fun vs H Q E h => ?_) (fun cdv A' outer s H vs Q E hr h => ?_)
  · obtain ⟨r, l, dx, i, ns, z, rfl, _⟩ := h
    rfl
  · obtain ⟨r, l, dx, i, ns, z, rfl, hr1, hl, hz, k⟩ := h
    refine ⟨_, (pss_cons (ps_set (i := 1) sc_Reader_take_number.nd rfl (Or.inl rfl) (pe_ix ix_list (pe_fld (pv 0) rfl) (pe_fld (pv 0) rfl) (fun _ _ => rfl)))
      (pss_cons (ps_fld (pv 0) (pe_op op_add (pe_fld (pv 0) rfl) pe_int) rfl)
      (pss_one (ps_ret (pv 1))))), ?_⟩
    try dsimp only [cxOf, Cx.nox, Cx.wish]
    walk_at "rd"
    refine g_Reader_numbers T ⟨_, _, hr1, ?_⟩
    walk_at "rd"
    refine g_Reader_at T ⟨_, _, hr1, ?_⟩
    walk_at "rd"
    refine rd_IxL hl (v := .int z) (by rw [List.getElem?_map, hz]; rfl) ?_
    walk_at "rd"
    refine g_Reader_at T ⟨_, _, hr1, ?_⟩
    walk_at "rd"
    refine p_Reader_at T ⟨_, _, hr1, ?_⟩
    walk_at "rd"
    exact k
def sp_Reader_take_row (K : PySem.W.Frag) (A : Adr) : Sp := fun vs H Q _ => ∃ (r l dx : Addr) (i n : Nat) (ns : List Int), vs = [.ref r] ∧ H r = some (rdO A dx l i) ∧ (∀ H', Mono H H' → SqL K H' l (ns.map V.int)) ∧ ns[i]? = some (n : Int) ∧ i + 1 + n ≤ ns.length ∧
  ∀ p od, H p = none → Q (.ref p) (upd (upd H p (.frz od (.lst (((ns.drop (i + 1)).take n).map V.int)))) r (rdO A dx l (i + 1 + n)))
theorem ok_Reader_take_row (T : Txt K mg A) : FnOk P w K mg base CX0 (2) A.f_Reader_take_row A.d_Reader_take_row ["self"] (sp_Reader_take_row K A) := by
  refine T.m_Reader_take_row.fn.ok sc_Reader_take_row (fun vs H Q E h => ?_) (fun cdv A' outer s H vs Q E hr h => ?_)
  · obtain ⟨r, l, dx, i, n, ns, rfl, _⟩ := h
    rfl
  · obtain ⟨r, l, dx, i, n, ns, rfl, hr1, hl, hz, hlen, k⟩ := h
    have hl1 := hl (upd H r (rdO A dx l (i + 1))) (.upd hr1 trivial)
    refine ⟨_, (pss_cons (ps_set (i := 1) sc_Reader_take_row.nd rfl (Or.inl rfl) (pe_meth0 (pv 0) T.cl_Reader T.m_Reader_take_number.mt (ok_Reader_take_number T) (hr.mono (by decide)) T.m_Reader_take_number.bd .nil pass0))
      (pss_cons (ps_set (i := 2) sc_Reader_take_row.nd rfl (Or.inl rfl) (pe_frz (pe_slice sl_list (pe_fld (pv 0) rfl) (po_some (pe_fld (pv 0) rfl)) (po_some (pe_op op_add (pe_fld (pv 0) rfl) (pv 1))))))
      (pss_cons (ps_fld (pv 0) (pe_op op_add (pe_fld (pv 0) rfl) (pv 1)) rfl)
      (pss_one (ps_ret (pv 2)))))), ?_⟩
    try dsimp only [cxOf, Cx.nox, Cx.wish]
    walk_at "rd"
    refine rd_kMeth hr1 (nm_Reader_take_number _) ?_
    walk_at "rd"
    refine ⟨r, l, dx, i, ns, (n : Int), rfl, hr1, hl _ .refl, hz, ?_⟩
    walk_at "rd"
    refine g_Reader_numbers T ⟨_, _, upd_same, ?_⟩
    walk_at "rd"
    refine g_Reader_at T ⟨_, _, upd_same, ?_⟩
    walk_at "rd"
    refine g_Reader_at T ⟨_, _, upd_same, ?_⟩
    walk_at "rd"
    refine rd_SlL hl1 fun p hp => ?_
    refine rd_kFrzN fun od => ?_
    have np : H p = none := upd_dom hp
    have nrp : r ≠ p := ne_of_none upd_same hp
    walk_at "rd"
    refine g_Reader_at T ⟨_, _, by rw [upd_ne nrp]; exact upd_same, ?_⟩
    walk_at "rd"
    refine p_Reader_at T ⟨_, _, by rw [upd_ne nrp]; exact upd_same, ?_⟩
    walk_at "rd"
    rw [upd_comm nrp, upd_upd]
    have e : cutV (ns.map V.int) (some ((i + 1 : Nat) : Int)) (some (((i + 1 : Nat) : Int) + (n : Int))) = ((ns.drop (i + 1)).take n).map V.int := by
      rw [cut_row _ _ _ (by rw [List.length_map]; omega), List.map_take, List.map_drop]
    have e2 : ((i + 1 : Nat) : Int) + (n : Int) = ((i + 1 + n : Nat) : Int) := by omega
    have k1 := k p od np
    rw [← e] at k1
    have k2 : Q (.ref p) (upd (upd H p (.frz od (.lst (cutV (ns.map V.int) (some ((i + 1 : Nat) : Int)) (some (((i + 1 : Nat) : Int) + (n : Int))))))) r (.ins A.c_Reader dx (fReader { numbers_ := l, at_ := ((i + 1 : Nat) : Int) + (n : Int) }))) := by rw [e2]; exact k1
    exact k2
end
theorem some_of {a : Sa77.Abs} {S : SS} {p : Int} {r : List Int} {c : List (List Int)} {t : List Int} (hp : p ≠ 0) (hc : PyFlat.call PySa77.shape (p :: r) = some (c, t)) (ab : AbsC a S c) : a = some S ∧ Wf 600 S := by
  rcases ab with h | ⟨_, me, n, z, rfl, _⟩
  · exact h
  · exfalso
    unfold PyFlat.call at hc
    dsimp only at hc
    split at hc
    · cases hc
    · split at hc
      · cases hc
      · split at hc
        · cases hc
        · have e1 := (Prod.mk.inj (Option.some.inj hc)).1
          exact hp (List.cons.inj (List.cons.inj e1).1).1
section
variable {P : Program} {w : World} {K : PySem.W.Frag} {mg : Str → Option Value} {base : Heap} {A : Adr}
def CL (K : PySem.W.Frag) (H : Hp) (l : Addr) (ns : List Int) : Prop := ∀ H', Mono H H' → SqL K H' l (ns.map V.int)
def sp_answer_one (K : PySem.W.Frag) (A : Adr) : Sp := fun vs H Q _ => ∃ (h : Addr) (L : Lay) (S : SS) (r dx l : Addr) (i : Nat) (ns : List Int) (c : List (List Int)) (t : List Int) (a : Sa77.Abs), vs = [.ref h, .ref r] ∧ Rep A h L H S ∧ H r = some (rdO A dx l i) ∧ (∀ t, onT S t → L.ad t ≠ r) ∧ CL K H l ns ∧
  PyFlat.call PySa77.shape (ns.drop i) = some (c, t) ∧ Sa77Neutral.asked1 c = true ∧ AbsC a S c ∧
  ∀ b L' H' S' i', (Sa77Neutral.step a c).1 = some S' → Run A h L S (upd H r (rdO A dx l i')) L' H' S' → ns.drop i' = t → Wf 600 S' → upd H r (rdO A dx l i') b = none → H' b = some (.lst ((Sa77Neutral.step a c).2.map V.int)) → Q (.ref b) H'
set_option maxHeartbeats 16000000 in
theorem ok_answer_one (T : Txt K mg A) : FnOk P w K mg base CX0 (7) A.f_answer_one A.d_answer_one ["host", "reader"] (sp_answer_one K A) := by
  refine T.g_answer_one.fn.ok sc_answer_one (fun vs H Q E h => ?_) (fun cdv A' outer s H vs Q E hr h => ?_)
  · obtain ⟨h, L, S, r, dx, l, i, ns, c, t, a, rfl, _⟩ := h
    rfl
  · obtain ⟨h, L, S, r, dx, l, i, ns, c, t, a, rfl, R, hr1, nr, hl, hc, as1, ab, k⟩ := h
    obtain ⟨p, rest, hd⟩ : ∃ p rest, ns.drop i = p :: rest := by
      cases q : ns.drop i with
      | nil => rw [q] at hc; cases hc
      | cons p rest => exact ⟨p, rest, rfl⟩
    rw [hd] at hc
    obtain ⟨z1, d1, z3⟩ := dropI hd
    have hl1 := hl (upd H r (rdO A dx l (i + 1))) (.upd hr1 trivial)
    have R1 : Rep A h L (upd H r (rdO A dx l (i + 1))) S := R.other hr1 trivial nr
    have fin : ∀ (x : Sa77.Call) (i' : Nat) (H1 : Hp), Sa77Neutral.callOf c = some x → callOk x → ns.drop i' = t → Ext (upd H r (rdO A dx l i')) H1 → a = some S → Wf 600 S → AnsD A h L S H1 Q (Sa77.does (some S) x) := fun x i' H1 hx ok ht E1 ea wf => by
      subst ea
      obtain ⟨S', e⟩ := does_some S x
      refine ⟨S', e, fun b L' H' g nb f => k b L' H' S' i' ?_ ⟨g.rep, (Fr.ext E1).trans g.fr⟩ ht ?_ (E1.none nb) ?_⟩
      · unfold Sa77Neutral.step; rw [hx]; exact e
      · exact wf_does (a := (Sa77.does (some S) x).2) wf ok (Prod.ext e rfl)
      · unfold Sa77Neutral.step; rw [hx]; exact f
    have sh := call_shape hc
    refine ⟨_, (pss_cons (ps_set (i := 2) sc_answer_one.nd rfl (Or.inl rfl) (pe_meth0 (pv 1) T.cl_Reader T.m_Reader_take_number.mt (ok_Reader_take_number T) (hr.mono (by decide)) T.m_Reader_take_number.bd .nil pass0))
      (pss_cons (ps_if (pt_cmpR op_eq (pv 2) (pe_glob (v := .int (0)) rfl T.k_BEGIN ⟨_, rfl⟩) (nomark _)) (pss_one (ps_ret (pe_call (ok_dt_begin T) (hr.mono (by decide)) rfl T.g_dt_begin.mg T.g_dt_begin.fn.kp T.g_dt_begin.bd .nil pass0 (pa_cons (pv 0) (pa_cons (pe_meth0 (pv 1) T.cl_Reader T.m_Reader_take_number.mt (ok_Reader_take_number T) (hr.mono (by decide)) T.m_Reader_take_number.bd .nil pass0) (pa_cons (pe_meth0 (pv 1) T.cl_Reader T.m_Reader_take_number.mt (ok_Reader_take_number T) (hr.mono (by decide)) T.m_Reader_take_number.bd .nil pass0) (pa_cons (pe_meth0 (pv 1) T.cl_Reader T.m_Reader_take_number.mt (ok_Reader_take_number T) (hr.mono (by decide)) T.m_Reader_take_number.bd .nil pass0) pa_nil))))))) pss_nil)
      (pss_cons (ps_if (pt_cmpR op_eq (pv 2) (pe_glob (v := .int (1)) rfl T.k_STATE ⟨_, rfl⟩) (nomark _)) (pss_one (ps_ret (pe_call (ok_dt_state T) (hr.mono (by decide)) rfl T.g_dt_state.mg T.g_dt_state.fn.kp T.g_dt_state.bd .nil pass0 (pa_cons (pv 0) (pa_cons (pe_meth0 (pv 1) T.cl_Reader T.m_Reader_take_row.mt (ok_Reader_take_row T) (hr.mono (by decide)) T.m_Reader_take_row.bd .nil pass0) pa_nil))))) pss_nil)
      (pss_cons (ps_if (pt_cmpR op_eq (pv 2) (pe_glob (v := .int (2)) rfl T.k_SEND ⟨_, rfl⟩) (nomark _)) (pss_one (ps_ret (pe_call (ok_dt_send T) (hr.mono (by decide)) rfl T.g_dt_send.mg T.g_dt_send.fn.kp T.g_dt_send.bd .nil pass0 (pa_cons (pv 0) (pa_cons (pe_meth0 (pv 1) T.cl_Reader T.m_Reader_take_number.mt (ok_Reader_take_number T) (hr.mono (by decide)) T.m_Reader_take_number.bd .nil pass0) (pa_cons (pe_meth0 (pv 1) T.cl_Reader T.m_Reader_take_row.mt (ok_Reader_take_row T) (hr.mono (by decide)) T.m_Reader_take_row.bd .nil pass0) pa_nil)))))) pss_nil)
      (pss_cons (ps_if (pt_cmpR op_eq (pv 2) (pe_glob (v := .int (3)) rfl T.k_IDLE ⟨_, rfl⟩) (nomark _)) (pss_one (ps_ret (pe_call (ok_dt_idle T) (hr.mono (by decide)) rfl T.g_dt_idle.mg T.g_dt_idle.fn.kp T.g_dt_idle.bd .nil pass0 (pa_cons (pv 0) pa_nil)))) pss_nil)
      (pss_cons (ps_if (pt_cmpR op_eq (pv 2) (pe_glob (v := .int (4)) rfl T.k_WATCH ⟨_, rfl⟩) (nomark _)) (pss_one (ps_ret (pe_call (ok_dt_watch T) (hr.mono (by decide)) rfl T.g_dt_watch.mg T.g_dt_watch.fn.kp T.g_dt_watch.bd .nil pass0 (pa_cons (pv 0) pa_nil)))) pss_nil)
      (pss_cons (ps_if (pt_cmpR op_eq (pv 2) (pe_glob (v := .int (5)) rfl T.k_SNAPSHOT ⟨_, rfl⟩) (nomark _)) (pss_one (ps_ret (pe_call (ok_dt_snapshot T) (hr.mono (by decide)) rfl T.g_dt_snapshot.mg T.g_dt_snapshot.fn.kp T.g_dt_snapshot.bd .nil pass0 (pa_cons (pv 0) pa_nil)))) pss_nil)
      (pss_cons (ps_if (pt_cmpR op_eq (pv 2) (pe_glob (v := .int (6)) rfl T.k_WANT_host ⟨_, rfl⟩) (nomark _)) (pss_one (ps_ret (pe_call (ok_dt_want T) (hr.mono (by decide)) rfl T.g_dt_want.mg T.g_dt_want.fn.kp T.g_dt_want.bd .nil pass0 (pa_cons (pv 0) (pa_cons (pe_meth0 (pv 1) T.cl_Reader T.m_Reader_take_number.mt (ok_Reader_take_number T) (hr.mono (by decide)) T.m_Reader_take_number.bd .nil pass0) pa_nil))))) pss_nil)
      (pss_cons (ps_if (pt_cmpR op_eq (pv 2) (pe_glob (v := .int (7)) rfl T.k_GRANT_host ⟨_, rfl⟩) (nomark _)) (pss_one (ps_ret (pe_call (ok_dt_grant T) (hr.mono (by decide)) rfl T.g_dt_grant.mg T.g_dt_grant.fn.kp T.g_dt_grant.bd .nil pass0 (pa_cons (pv 0) (pa_cons (pe_meth0 (pv 1) T.cl_Reader T.m_Reader_take_number.mt (ok_Reader_take_number T) (hr.mono (by decide)) T.m_Reader_take_number.bd .nil pass0) pa_nil))))) pss_nil)
      (pss_cons (ps_if (pt_cmpR op_eq (pv 2) (pe_glob (v := .int (8)) rfl T.k_SUSPECT ⟨_, rfl⟩) (nomark _)) (pss_one (ps_ret (pe_call (ok_dt_suspect T) (hr.mono (by decide)) rfl T.g_dt_suspect.mg T.g_dt_suspect.fn.kp T.g_dt_suspect.bd .nil pass0 (pa_cons (pv 0) pa_nil)))) pss_nil)
      (pss_cons (ps_if (pt_cmpR op_eq (pv 2) (pe_glob (v := .int (9)) rfl T.k_MESSAGE ⟨_, rfl⟩) (nomark _)) (pss_one (ps_ret (pe_call (ok_dt_message T) (hr.mono (by decide)) rfl T.g_dt_message.mg T.g_dt_message.fn.kp T.g_dt_message.bd .nil pass0 (pa_cons (pv 0) (pa_cons (pe_meth0 (pv 1) T.cl_Reader T.m_Reader_take_number.mt (ok_Reader_take_number T) (hr.mono (by decide)) T.m_Reader_take_number.bd .nil pass0) (pa_cons (pe_meth0 (pv 1) T.cl_Reader T.m_Reader_take_row.mt (ok_Reader_take_row T) (hr.mono (by decide)) T.m_Reader_take_row.bd .nil pass0) pa_nil)))))) pss_nil)
      (pss_cons (ps_if (pt_cmpR op_eq (pv 2) (pe_glob (v := .int (10)) rfl T.k_OUTPUT ⟨_, rfl⟩) (nomark _)) (pss_one (ps_ret (pe_call (ok_dt_output T) (hr.mono (by decide)) rfl T.g_dt_output.mg T.g_dt_output.fn.kp T.g_dt_output.bd .nil pass0 (pa_cons (pv 0) (pa_cons (pe_meth0 (pv 1) T.cl_Reader T.m_Reader_take_number.mt (ok_Reader_take_number T) (hr.mono (by decide)) T.m_Reader_take_number.bd .nil pass0) pa_nil))))) pss_nil)
      (pss_cons (ps_if (pt_cmpR op_eq (pv 2) (pe_glob (v := .int (11)) rfl T.k_TAKE ⟨_, rfl⟩) (nomark _)) (pss_one (ps_ret (pe_call (ok_dt_take T) (hr.mono (by decide)) rfl T.g_dt_take.mg T.g_dt_take.fn.kp T.g_dt_take.bd .nil pass0 (pa_cons (pv 0) (pa_cons (pe_meth0 (pv 1) T.cl_Reader T.m_Reader_take_number.mt (ok_Reader_take_number T) (hr.mono (by decide)) T.m_Reader_take_number.bd .nil pass0) pa_nil))))) pss_nil)
      (pss_cons (ps_if (pt_cmpR op_eq (pv 2) (pe_glob (v := .int (12)) rfl T.k_CUT ⟨_, rfl⟩) (nomark _)) (pss_one (ps_ret (pe_call (ok_dt_cut T) (hr.mono (by decide)) rfl T.g_dt_cut.mg T.g_dt_cut.fn.kp T.g_dt_cut.bd .nil pass0 (pa_cons (pv 0) (pa_cons (pe_meth0 (pv 1) T.cl_Reader T.m_Reader_take_number.mt (ok_Reader_take_number T) (hr.mono (by decide)) T.m_Reader_take_number.bd .nil pass0) pa_nil))))) pss_nil)
      (pss_cons (ps_if (pt_cmpR op_eq (pv 2) (pe_glob (v := .int (13)) rfl T.k_TOLD ⟨_, rfl⟩) (nomark _)) (pss_one (ps_ret (pe_call (ok_dt_told T) (hr.mono (by decide)) rfl T.g_dt_told.mg T.g_dt_told.fn.kp T.g_dt_told.bd .nil pass0 (pa_cons (pv 0) pa_nil)))) pss_nil)
      (pss_one ps_never)))))))))))))))), ?_⟩
    try dsimp only [cxOf, Cx.nox, Cx.wish]
    walk_at "rd"
    refine rd_kMeth hr1 (nm_Reader_take_number _) ?_
    walk_at "rd"
    refine ⟨r, l, dx, i, ns, p, rfl, hr1, hl _ .refl, z1, ?_⟩
    walk_at "rd"
    refine rd_iteD (fun h1 => ?_) (fun h1 => ?_)
    · have h1 : p = 0 := h1
      subst h1
      obtain ⟨me, n, z, rfl, rfl⟩ := call_30 rfl hc
      obtain ⟨q1, q2, q3⟩ := dropI d1
      obtain ⟨q4, q5, q6⟩ := dropI q2
      obtain ⟨q7, q8, q9⟩ := dropI q5
      walk_at "rd"
      refine rd_kMeth upd_same (nm_Reader_take_number _) ?_
      walk_at "rd"
      refine ⟨r, l, dx, i + 1, ns, me, rfl, upd_same, hl1, q1, ?_⟩
      rw [upd_upd]
      walk_at "rd"
      refine rd_kMeth upd_same (nm_Reader_take_number _) ?_
      walk_at "rd"
      refine ⟨r, l, dx, i + 1 + 1, ns, n, rfl, upd_same, hl _ (.upd hr1 trivial), q4, ?_⟩
      rw [upd_upd]
      walk_at "rd"
      refine rd_kMeth upd_same (nm_Reader_take_number _) ?_
      walk_at "rd"
      refine ⟨r, l, dx, i + 1 + 1 + 1, ns, z, rfl, upd_same, hl _ (.upd hr1 trivial), q7, ?_⟩
      rw [upd_upd]
      walk_at "rd"
      have es : ∀ y, Sa77.does a (.begin_ me n z) = y → (Sa77Neutral.step a [[0, me, n, z]]).1 = y.1 ∧ (Sa77Neutral.step a [[0, me, n, z]]).2 = ansL y.2 := fun y e => by subst e; exact ⟨rfl, rfl⟩
      have bd := begin_does a me n z
      refine ⟨h, L, S, me, n, z, rfl, R.other hr1 trivial nr, fun ho b L' H' g nb f => ?_, fun ho b L' H' g nb f => ?_⟩
      · rw [if_pos ho] at bd
        obtain ⟨e1, e2⟩ := es _ bd
        rcases ab with ⟨rfl, wf⟩ | ⟨_, me', n', z', e, ho'⟩
        · exact k b L' H' S _ e1 g q8 wf nb (by rw [e2]; exact f)
        · cases e; rw [ho] at ho'; cases ho'
      · rw [if_neg (by rw [ho]; exact fun z => nomatch z)] at bd
        obtain ⟨e1, e2⟩ := es _ bd
        exact k b L' H' _ _ e1 g q8 (wf_beg z ho) nb (by rw [e2]; exact f)
    have n0 : p ≠ 0 := h1
    walk_at "rd"
    refine rd_iteD (fun h1 => ?_) (fun h1 => ?_)
    · have h1 : p = 1 := h1
      subst h1
      obtain ⟨rfl, wf⟩ := some_of (by decide) hc ab
      obtain ⟨n, q, rfl, hq, rfl, rfl⟩ := call_01 rfl hc
      obtain ⟨q1, q2, q3⟩ := dropI d1
      have hn : q.length = ns.length - (i + 1 + 1) := by rw [← q2, List.length_drop]
      have ask : (q.take n).all (fun (z : Int) => Sa77Neutral.natural z 8) = true := as1
      walk_at "rd"
      refine rd_kMeth upd_same (nm_Reader_take_row _) ?_
      walk_at "rd"
      refine ⟨r, l, dx, i + 1, n, ns, rfl, upd_same, fun H' m => hl _ ((Mono.upd hr1 trivial).trans m), q1, by omega, fun p2 od hp2 => ?_⟩
      have np : H p2 = none := upd_dom hp2
      have rp : r ≠ p2 := ne_of_none upd_same hp2
      rw [q2, upd_comm rp, upd_upd]
      walk_at "rd"
      have hr2 : upd H p2 (.frz od (.lst ((q.take n).map V.int))) r = some (rdO A dx l i) := by rw [upd_ne rp]; exact hr1
      have R2 : Rep A h L (upd (upd H p2 (.frz od (.lst ((q.take n).map V.int)))) r (rdO A dx l (i + 1 + 1 + n))) S := (R.alloc np).other hr2 trivial nr
      have f2 : Fz (upd (upd H p2 (.frz od (.lst ((q.take n).map V.int)))) r (rdO A dx l (i + 1 + 1 + n))) p2 (byL (Sa77Neutral.nats (q.take n))) := ⟨od, by rw [upd_ne (Ne.symm rp), upd_same, ints_nats ask]⟩
      have E2 : Ext (upd H r (rdO A dx l (i + 1 + 1 + n))) (upd (upd H p2 (.frz od (.lst ((q.take n).map V.int)))) r (rdO A dx l (i + 1 + 1 + n))) := by rw [upd_comm (Ne.symm rp)]; exact Ext.alloc (by rw [upd_ne (Ne.symm rp)]; exact np)
      have hdr : ns.drop (i + 1 + 1 + n) = q.drop n := by rw [← q2, List.drop_drop]
      exact ⟨h, L, S, p2, Sa77Neutral.nats (q.take n), rfl, R2, f2, fin (.state (Sa77Neutral.nats (q.take n)) ((Sa77Neutral.nats (q.take n)).length : Nat)) _ _ (by rw [nats_len]; rfl) rfl hdr E2 rfl wf⟩
    have n1 : p ≠ 1 := h1
    walk_at "rd"
    refine rd_iteD (fun h1 => ?_) (fun h1 => ?_)
    · have h1 : p = 2 := h1
      subst h1
      obtain ⟨rfl, wf⟩ := some_of (by decide) hc ab
      obtain ⟨y, n, q, rfl, hq, rfl, rfl⟩ := call_11 rfl hc
      obtain ⟨q1, q2, q3⟩ := dropI d1
      obtain ⟨q4, q5, q6⟩ := dropI q2
      have hn : q.length = ns.length - (i + 1 + 1 + 1) := by rw [← q5, List.length_drop]
      have ask : (q.take n).all (fun (z : Int) => Sa77Neutral.natural z 8) = true := (Bool.and_eq_true _ _ ▸ as1 : _ ∧ _).2
      walk_at "rd"
      refine rd_kMeth upd_same (nm_Reader_take_number _) ?_
      walk_at "rd"
      refine ⟨r, l, dx, i + 1, ns, y, rfl, upd_same, hl1, q1, ?_⟩
      rw [upd_upd]
      walk_at "rd"
      refine rd_kMeth upd_same (nm_Reader_take_row _) ?_
      walk_at "rd"
      refine ⟨r, l, dx, i + 1 + 1, n, ns, rfl, upd_same, fun H' m => hl _ ((Mono.upd hr1 trivial).trans m), q4, by omega, fun p2 od hp2 => ?_⟩
      have np : H p2 = none := upd_dom hp2
      have rp : r ≠ p2 := ne_of_none upd_same hp2
      rw [q5, upd_comm rp, upd_upd]
      walk_at "rd"
      have hr2 : upd H p2 (.frz od (.lst ((q.take n).map V.int))) r = some (rdO A dx l i) := by rw [upd_ne rp]; exact hr1
      have R2 : Rep A h L (upd (upd H p2 (.frz od (.lst ((q.take n).map V.int)))) r (rdO A dx l (i + 1 + 1 + 1 + n))) S := (R.alloc np).other hr2 trivial nr
      have f2 : Fz (upd (upd H p2 (.frz od (.lst ((q.take n).map V.int)))) r (rdO A dx l (i + 1 + 1 + 1 + n))) p2 (byL (Sa77Neutral.nats (q.take n))) := ⟨od, by rw [upd_ne (Ne.symm rp), upd_same, ints_nats ask]⟩
      have E2 : Ext (upd H r (rdO A dx l (i + 1 + 1 + 1 + n))) (upd (upd H p2 (.frz od (.lst ((q.take n).map V.int)))) r (rdO A dx l (i + 1 + 1 + 1 + n))) := by rw [upd_comm (Ne.symm rp)]; exact Ext.alloc (by rw [upd_ne (Ne.symm rp)]; exact np)
      have hdr : ns.drop (i + 1 + 1 + 1 + n) = q.drop n := by rw [← q5, List.drop_drop]
      exact ⟨h, L, S, y, p2, Sa77Neutral.nats (q.take n), rfl, R2, f2, fin (.send y (Sa77Neutral.nats (q.take n)) ((Sa77Neutral.nats (q.take n)).length : Nat)) _ _ (by rw [nats_len]; rfl) rfl hdr E2 rfl wf⟩
    have n2 : p ≠ 2 := h1
    walk_at "rd"
    refine rd_iteD (fun h1 => ?_) (fun h1 => ?_)
    · have h1 : p = 3 := h1
      subst h1
      obtain ⟨rfl, wf⟩ := some_of (by decide) hc ab
      obtain ⟨rfl, rfl⟩ := call_00 rfl hc
      walk_at "rd"
      exact ⟨h, L, S, rfl, R1, by have := wf.n2; omega, fin .idle (i + 1) _ rfl trivial d1 Ext.refl rfl wf⟩
    have n3 : p ≠ 3 := h1
    walk_at "rd"
    refine rd_iteD (fun h1 => ?_) (fun h1 => ?_)
    · have h1 : p = 4 := h1
      subst h1
      obtain ⟨rfl, wf⟩ := some_of (by decide) hc ab
      obtain ⟨rfl, rfl⟩ := call_00 rfl hc
      walk_at "rd"
      exact ⟨h, L, S, rfl, R1, by have := wf.n2; omega, fin .watch (i + 1) _ rfl trivial d1 Ext.refl rfl wf⟩
    have n4 : p ≠ 4 := h1
    walk_at "rd"
    refine rd_iteD (fun h1 => ?_) (fun h1 => ?_)
    · have h1 : p = 5 := h1
      subst h1
      obtain ⟨rfl, wf⟩ := some_of (by decide) hc ab
      obtain ⟨rfl, rfl⟩ := call_00 rfl hc
      walk_at "rd"
      exact ⟨h, L, S, rfl, R1, wf, fin .snapshot (i + 1) _ rfl trivial d1 Ext.refl rfl wf⟩
    have n5 : p ≠ 5 := h1
    walk_at "rd"
    refine rd_iteD (fun h1 => ?_) (fun h1 => ?_)
    · have h1 : p = 6 := h1
      subst h1
      obtain ⟨rfl, wf⟩ := some_of (by decide) hc ab
      obtain ⟨y, rfl, rfl⟩ := call_10 rfl hc
      obtain ⟨q1, q2, q3⟩ := dropI d1
      walk_at "rd"
      refine rd_kMeth upd_same (nm_Reader_take_number _) ?_
      walk_at "rd"
      refine ⟨r, l, dx, i + 1, ns, y, rfl, upd_same, hl1, q1, ?_⟩
      rw [upd_upd]
      walk_at "rd"
      exact ⟨h, L, S, y, rfl, R.other hr1 trivial nr, fin (.want y) (i + 1 + 1) _ rfl trivial q2 Ext.refl rfl wf⟩
    have n6 : p ≠ 6 := h1
    walk_at "rd"
    refine rd_iteD (fun h1 => ?_) (fun h1 => ?_)
    · have h1 : p = 7 := h1
      subst h1
      obtain ⟨rfl, wf⟩ := some_of (by decide) hc ab
      obtain ⟨y, rfl, rfl⟩ := call_10 rfl hc
      obtain ⟨q1, q2, q3⟩ := dropI d1
      walk_at "rd"
      refine rd_kMeth upd_same (nm_Reader_take_number _) ?_
      walk_at "rd"
      refine ⟨r, l, dx, i + 1, ns, y, rfl, upd_same, hl1, q1, ?_⟩
      rw [upd_upd]
      walk_at "rd"
      exact ⟨h, L, S, y, rfl, R.other hr1 trivial nr, wf.wants, fin (.grant y) (i + 1 + 1) _ rfl trivial q2 Ext.refl rfl wf⟩
    have n7 : p ≠ 7 := h1
    walk_at "rd"
    refine rd_iteD (fun h1 => ?_) (fun h1 => ?_)
    · have h1 : p = 8 := h1
      subst h1
      obtain ⟨rfl, wf⟩ := some_of (by decide) hc ab
      obtain ⟨rfl, rfl⟩ := call_00 rfl hc
      walk_at "rd"
      exact ⟨h, L, S, rfl, R1, wf, fin .suspect (i + 1) _ rfl trivial d1 Ext.refl rfl wf⟩
    have n8 : p ≠ 8 := h1
    walk_at "rd"
    refine rd_iteD (fun h1 => ?_) (fun h1 => ?_)
    · have h1 : p = 9 := h1
      subst h1
      obtain ⟨rfl, wf⟩ := some_of (by decide) hc ab
      obtain ⟨y, n, q, rfl, hq, rfl, rfl⟩ := call_11 rfl hc
      obtain ⟨q1, q2, q3⟩ := dropI d1
      obtain ⟨q4, q5, q6⟩ := dropI q2
      have hn : q.length = ns.length - (i + 1 + 1 + 1) := by rw [← q5, List.length_drop]
      have ask : (q.take n).all (fun (z : Int) => Sa77Neutral.natural z 8) = true := (Bool.and_eq_true _ _ ▸ as1 : _ ∧ _).2
      walk_at "rd"
      refine rd_kMeth upd_same (nm_Reader_take_number _) ?_
      walk_at "rd"
      refine ⟨r, l, dx, i + 1, ns, y, rfl, upd_same, hl1, q1, ?_⟩
      rw [upd_upd]
      walk_at "rd"
      refine rd_kMeth upd_same (nm_Reader_take_row _) ?_
      walk_at "rd"
      refine ⟨r, l, dx, i + 1 + 1, n, ns, rfl, upd_same, fun H' m => hl _ ((Mono.upd hr1 trivial).trans m), q4, by omega, fun p2 od hp2 => ?_⟩
      have np : H p2 = none := upd_dom hp2
      have rp : r ≠ p2 := ne_of_none upd_same hp2
      rw [q5, upd_comm rp, upd_upd]
      walk_at "rd"
      have hr2 : upd H p2 (.frz od (.lst ((q.take n).map V.int))) r = some (rdO A dx l i) := by rw [upd_ne rp]; exact hr1
      have R2 : Rep A h L (upd (upd H p2 (.frz od (.lst ((q.take n).map V.int)))) r (rdO A dx l (i + 1 + 1 + 1 + n))) S := (R.alloc np).other hr2 trivial nr
      have f2 : Fz (upd (upd H p2 (.frz od (.lst ((q.take n).map V.int)))) r (rdO A dx l (i + 1 + 1 + 1 + n))) p2 (byL (Sa77Neutral.nats (q.take n))) := ⟨od, by rw [upd_ne (Ne.symm rp), upd_same, ints_nats ask]⟩
      have E2 : Ext (upd H r (rdO A dx l (i + 1 + 1 + 1 + n))) (upd (upd H p2 (.frz od (.lst ((q.take n).map V.int)))) r (rdO A dx l (i + 1 + 1 + 1 + n))) := by rw [upd_comm (Ne.symm rp)]; exact Ext.alloc (by rw [upd_ne (Ne.symm rp)]; exact np)
      have hdr : ns.drop (i + 1 + 1 + 1 + n) = q.drop n := by rw [← q5, List.drop_drop]
      exact ⟨h, L, S, y, p2, Sa77Neutral.nats (q.take n), rfl, R2, wf, f2, nats_lt ask, fin (.message y (Sa77Neutral.nats (q.take n)) ((Sa77Neutral.nats (q.take n)).length : Nat)) _ _ (by rw [nats_len]; rfl) rfl hdr E2 rfl wf⟩
    have n9 : p ≠ 9 := h1
    walk_at "rd"
    refine rd_iteD (fun h1 => ?_) (fun h1 => ?_)
    · have h1 : p = 10 := h1
      subst h1
      obtain ⟨rfl, wf⟩ := some_of (by decide) hc ab
      obtain ⟨y, rfl, rfl⟩ := call_10 rfl hc
      obtain ⟨q1, q2, q3⟩ := dropI d1
      walk_at "rd"
      refine rd_kMeth upd_same (nm_Reader_take_number _) ?_
      walk_at "rd"
      refine ⟨r, l, dx, i + 1, ns, y, rfl, upd_same, hl1, q1, ?_⟩
      rw [upd_upd]
      walk_at "rd"
      exact ⟨h, L, S, y, rfl, R.other hr1 trivial nr, wf, fin (.output y) (i + 1 + 1) _ rfl trivial q2 Ext.refl rfl wf⟩
    have n10 : p ≠ 10 := h1
    walk_at "rd"
    refine rd_iteD (fun h1 => ?_) (fun h1 => ?_)
    · have h1 : p = 11 := h1
      subst h1
      obtain ⟨rfl, wf⟩ := some_of (by decide) hc ab
      obtain ⟨y, rfl, rfl⟩ := call_10 rfl hc
      obtain ⟨q1, q2, q3⟩ := dropI d1
      walk_at "rd"
      refine rd_kMeth upd_same (nm_Reader_take_number _) ?_
      walk_at "rd"
      refine ⟨r, l, dx, i + 1, ns, y, rfl, upd_same, hl1, q1, ?_⟩
      rw [upd_upd]
      walk_at "rd"
      exact ⟨h, L, S, y, rfl, R.other hr1 trivial nr, wf, fin (.take y) (i + 1 + 1) _ rfl trivial q2 Ext.refl rfl wf⟩
    have n11 : p ≠ 11 := h1
    walk_at "rd"
    refine rd_iteD (fun h1 => ?_) (fun h1 => ?_)
    · have h1 : p = 12 := h1
      subst h1
      obtain ⟨rfl, wf⟩ := some_of (by decide) hc ab
      obtain ⟨y, rfl, rfl⟩ := call_10 rfl hc
      obtain ⟨q1, q2, q3⟩ := dropI d1
      walk_at "rd"
      refine rd_kMeth upd_same (nm_Reader_take_number _) ?_
      walk_at "rd"
      refine ⟨r, l, dx, i + 1, ns, y, rfl, upd_same, hl1, q1, ?_⟩
      rw [upd_upd]
      walk_at "rd"
      exact ⟨h, L, S, y, rfl, R.other hr1 trivial nr, wf, fin (.cut y) (i + 1 + 1) _ rfl trivial q2 Ext.refl rfl wf⟩
    have n12 : p ≠ 12 := h1
    walk_at "rd"
    refine rd_iteD (fun h1 => ?_) (fun h1 => ?_)
    · have h1 : p = 13 := h1
      subst h1
      obtain ⟨rfl, wf⟩ := some_of (by decide) hc ab
      obtain ⟨rfl, rfl⟩ := call_00 rfl hc
      walk_at "rd"
      exact ⟨h, L, S, rfl, R1, wf, fin .told (i + 1) _ rfl trivial d1 Ext.refl rfl wf⟩
    have n13 : p ≠ 13 := h1
    walk_at "rd"
    exact absurd sh (by omega)
end
section
variable {P : Program} {w : World} {K : PySem.W.Frag} {mg : Str → Option Value} {base : Heap} {A : Adr}
theorem CL.mono {H H' : Hp} {l : Addr} {ns : List Int} (c : CL K H l ns) (m : Mono H H') : CL K H' l ns := fun H2 m2 => c H2 (m.trans m2)
theorem AbsO.head {a : Sa77.Abs} {S : SS} {c : List (List Int)} {cs : List (List (List Int))} (h : AbsO a S (c :: cs)) : AbsC a S c := by
  rcases h with h | ⟨h1, me, n, z, rest, e, ho⟩
  · exact .inl h
  · cases e; exact .inr ⟨h1, me, n, z, rfl, ho⟩
structure Lp (K : PySem.W.Frag) (A : Adr) (h r dx l tl : Addr) (ns : List Int) (m : Nat) (H : Hp) (L : Lay) (S : SS) (a : Sa77.Abs) (i f : Nat) (cs : List (List (List Int))) (acc : List Int) : Prop where
  rep : Rep A h L H S
  rd : H r = some (rdO A dx l i)
  told : H tl = some (.lst (acc.map V.int))
  nr : ∀ t, onT S t → L.ad t ≠ r
  nt : ∀ t, onT S t → L.ad t ≠ tl
  cl : CL K H l ns
  nx : Nr f (ns.drop i) cs
  len : m = cs.length
  ask : cs.all Sa77Neutral.asked1 = true
  abs : AbsO a S cs
  eq : acc ++ PyFlat.told (PyFlat.played Sa77Neutral.step a cs) = PySa77.answers ns
def sp_answers_on (K : PySem.W.Frag) (A : Adr) : Sp := fun vs H Q _ => ∃ (h l : Addr) (L : Lay) (ns : List Int), vs = [.ref h, .ref l] ∧ Rep A h L H (Sa77.begun 0 0 false) ∧ CL K H l ns ∧ PySa77.answers_asked ns = true ∧ ∀ b H', H' b = some (.lst ((PySa77.answers ns).map V.int)) → Q (.ref b) H'
set_option maxHeartbeats 4000000 in
theorem ok_answers_on (T : Txt K mg A) : FnOk P w K mg base CX0 (8) A.f_answers_on A.d_answers_on ["host", "calls"] (sp_answers_on K A) := by
  refine T.g_answers_on.fn.ok sc_answers_on (fun vs H Q E h => ?_) (fun cdv A' outer s H vs Q E hr h => ?_)
  · obtain ⟨h, l, L, ns, rfl, _⟩ := h
    rfl
  · obtain ⟨h, l, L, ns, rfl, R, cl, ask, k⟩ := h
    obtain ⟨cs0, ec, ask2⟩ : ∃ cs, PyFlat.calls PySa77.shape ns.length ns = some cs ∧ Sa77Neutral.asked cs = true := by
      unfold PySa77.answers_asked at ask
      rw [calls_eq] at ask
      cases q : PyFlat.calls PySa77.shape ns.length ns with
      | none => rw [q] at ask; cases ask
      | some cs =>
        rw [q] at ask
        exact ⟨cs, rfl, (Bool.and_eq_true _ _ ▸ ask : _ ∧ _).2⟩
    obtain ⟨as1, as2, as3, me, n, z, rest, ef, eo⟩ := asked_first ask2
    have ea : PySa77.answers ns = PyFlat.told (PyFlat.played Sa77Neutral.step Sa77Neutral.start cs0) := by
      unfold PySa77.answers
      rw [calls_eq, ec]
    have la : (PySa77.answers ns).length ≤ 1000400 := by
      rw [ea, told_len]; omega
    refine ⟨_, (pss_cons (ps_set (i := 2) sc_answers_on.nd rfl (Or.inl rfl) (pe_make T.mk_Reader (ok_Reader_init T) (hr.mono (by decide)) rfl T.mg_Reader T.m_Reader_init.bd .nil pass0 (pa_cons (pv 1) pa_nil)))
      (pss_cons (ps_set (i := 3) sc_answers_on.nd rfl (Or.inl rfl) (pe_lst pa_nil))
      (pss_cons (ps_while PassesOwn.never (pt_val (pe_meth0 (pv 2) T.cl_Reader T.m_Reader_has_more.mt (ok_Reader_has_more T) (hr.mono (by decide)) T.m_Reader_has_more.bd .nil pass0)) (pss_cons (ps_set (i := 4) sc_answers_on.nd rfl (Or.inl rfl) (pe_call (ok_answer_one T) (hr.mono (by decide)) rfl T.g_answer_one.mg T.g_answer_one.fn.kp T.g_answer_one.bd .nil pass0 (pa_cons (pv 0) (pa_cons (pv 2) pa_nil))))
      (pss_cons (ps_expr (pe_bm PySem.F.plainAttrs_list PySem.F.slot_list_append PySem.F.type_list_append mt_append (pv 3) (pa_cons (pe_callB call_lenR (by rfl) T.b_len PySem.boot_len (pa_cons (pv 4) pa_nil)) pa_nil)))
      (pss_one (ps_expr (pe_bm PySem.F.plainAttrs_list PySem.F.slot_list_extend PySem.F.type_list_extend mt_extendR (pv 3) (pa_cons (pv 4) pa_nil)))))))
      (pss_one (ps_ret (pv 3)))))), ?_⟩
    try dsimp only [cxOf, Cx.nox, Cx.wish]
    walk_at "rd"
    intro r dx nr nd ne
    refine ⟨r, dx, l, rfl, upd_same, rfl, ?_⟩
    rw [upd_upd]
    walk_at "rd"
    rename_i tl ht
    have nr1 : upd H dx (.own r) r = none := by rw [upd_ne (Ne.symm ne)]; exact nr
    have E2 : Ext H (upd (upd (upd H dx (.own r)) r (rdO A dx l 0)) tl (.lst [])) := ((Ext.alloc nd).trans (Ext.alloc nr1)).trans (Ext.alloc ht)
    have rt : r ≠ tl := ne_of_none upd_same ht
    have nt : H tl = none := upd_dom (upd_dom ht)
    refine ⟨fun m σ H' => ∃ L S a i f cs acc x, σ = [some (.ref h), some (.ref l), some (.ref r), some (.ref tl), x] ∧ Lp K A h r dx l tl ns m H' L S a i f cs acc, ⟨cs0.length, L, Sa77.begun 0 0 false, Sa77Neutral.start, 0, ns.length, cs0, [], none, rfl, ?_⟩, ?_⟩
    · exact ⟨R.ext E2, by rw [upd_ne rt]; exact upd_same, upd_same, fun t on => R.ne_new nr on, fun t on => R.ne_new nt on, cl.mono E2.mono, ec, rfl, as1, .inr ⟨rfl, me, n, z, rest, ef, eo⟩, by rw [ea]; rfl⟩
    rintro m σ H' ⟨L1, S1, a, i, f, cs, acc, x, rfl, lp⟩
    walk_at "rd"
    refine rd_kMeth lp.rd (nm_Reader_has_more _) ?_
    walk_at "rd"
    refine ⟨r, dx, l, i, ns, rfl, lp.rd, lp.cl _ .refl, ?_⟩
    walk_at "rd"
    refine rd_iteD (fun hc => ?_) (fun hc => ?_)
    · obtain ⟨p, rs, hd⟩ : ∃ p rs, ns.drop i = p :: rs := by
        cases q : ns.drop i with
        | nil => have := List.drop_eq_nil_iff.mp q; omega
        | cons p rs => exact ⟨p, rs, rfl⟩
      have nx := lp.nx
      rw [hd] at nx
      obtain ⟨c, t, cs', f', hcall, nx', ecs⟩ := nx.cons
      have eqn := lp.eq
      have abs := lp.abs
      have ask := lp.ask
      have len := lp.len
      subst ecs
      rw [List.all_cons, Bool.and_eq_true] at ask
      refine ⟨fun σ' H2 => ∃ L S a i f acc x, σ' = [some (.ref h), some (.ref l), some (.ref r), some (.ref tl), x] ∧ Lp K A h r dx l tl ns cs'.length H2 L S a i f cs' acc, fun σ' H2 ⟨L2, S2, a2, i2, f2, acc2, x2, e, q⟩ => ⟨cs'.length, by rw [len]; exact Nat.lt_succ_self _, L2, S2, a2, i2, f2, cs', acc2, x2, e, q⟩, ?_⟩
      walk_at "rd"
      refine ⟨h, L1, S1, r, dx, l, i, ns, c, t, a, rfl, lp.rep, lp.rd, lp.nr, lp.cl, by rw [hd]; exact hcall, ask.1, abs.head, fun b L2 H2 S2 i2 es g2 hdr wf2 nb f2 => ?_⟩
      have rt2 : tl ≠ r := Ne.symm rt
      have tb : upd H' r (rdO A dx l i2) tl = some (.lst (acc.map V.int)) := by rw [upd_ne rt2]; exact lp.told
      have t2 : H2 tl = some (.lst (acc.map V.int)) := g2.fr.keep _ _ tb lp.nt
      have r2 : H2 r = some (rdO A dx l i2) := g2.fr.keep _ _ upd_same lp.nr
      have bt : tl ≠ b := ne_of_none tb nb
      have m2 : Mono H' H2 := (Mono.upd lp.rd trivial).trans g2.fr.mono
      rw [told_cons] at eqn
      have leq := congrArg List.length eqn
      rw [List.length_append, List.length_cons, List.length_append] at leq
      have big : 2000000 ≤ sizeLine := by unfold sizeLine; decide
      walk_at "rd"
      refine rd_kBM (SqL.of t2) ?_
      walk_at "rd"
      refine rd_lenL f2 ?_
      rw [map_len]
      walk_at "rd"
      refine rd_app t2 (by rw [map_len]; omega) ?_
      walk_at "rd"
      refine rd_kBM (SqL.of upd_same) ?_
      walk_at "rd"
      refine rd_ext upd_same (.inl (by rw [upd_ne (Ne.symm bt)]; exact f2)) (by rw [List.length_append, map_len, map_len]; simp only [List.length_cons, List.length_nil]; omega) ?_
      rw [upd_upd]
      walk_at "rd"
      have own2 : ∀ {x : Addr} {o : HO}, upd H' r (rdO A dx l i2) x = some o → (∀ t, onT S1 t → L1.ad t ≠ x) → ∀ t, onT S2 t → L2.ad t ≠ x := fun {x o} hx hn t on q => by
        rcases g2.fr.own t on with ⟨t', h1, h2⟩ | h1
        · exact hn t' h1 (h2.trans q)
        · rw [q, hx] at h1; cases h1
      have nt2 := own2 tb lp.nt
      have nr2 := own2 (upd_same (H := H') (a := r) (o := rdO A dx l i2)) lp.nr
      refine ⟨L2, S2, some S2, i2, f', acc ++ ((((Sa77Neutral.step a c).2.length : Nat) : Int) :: (Sa77Neutral.step a c).2), _, rfl, ?_⟩
      refine ⟨g2.rep.other t2 trivial nt2, by rw [upd_ne rt]; exact r2, ?_, nr2, nt2, lp.cl.mono (m2.trans (.upd t2 trivial)), by rw [hdr]; exact nx', rfl, ask.2, .inl ⟨rfl, wf2⟩, ?_⟩
      · rw [upd_same]
        simp
      · rw [← eqn, es, List.append_assoc, List.cons_append]
    · have e0 : cs = [] := by
        have nx := lp.nx
        rw [List.drop_eq_nil_of_le (by omega)] at nx
        exact nx.nil
      have eqn := lp.eq
      subst e0
      have ea2 : PySa77.answers ns = acc := by rw [← eqn]; exact List.append_nil _
      walk_at "rd"
      exact k tl _ (by rw [ea2]; exact lp.told)
def sp_answers (K : PySem.W.Frag) : Sp := fun vs H Q _ => ∃ (a : Addr) (ns : List Int), vs = [.ref a] ∧ Only H ∧ SqL K H a (ns.map V.int) ∧ PySa77.answers_asked ns = true ∧ ∀ b H', H' b = some (.lst ((PySa77.answers ns).map V.int)) → Q (.ref b) H'
theorem ok_answers (T : Txt K mg A) : FnOk P w K mg base CX0 (9) A.f_answers A.d_answers ["calls"] (sp_answers K) := by
  refine T.g_answers.fn.ok sc_answers (fun vs H Q E h => ?_) (fun cdv A' outer s H vs Q E hr h => ?_)
  · obtain ⟨a, ns, rfl, _⟩ := h
    rfl
  · obtain ⟨a, ns, rfl, hO, hl, ask, k⟩ := h
    have cl : CL K H a ns := by
      rcases hl with (q | ⟨o, q⟩) | q
      · rcases hO a with z | ⟨ob, xs, z⟩
        · rw [q] at z; cases z
        · rw [q] at z; cases z
      · exact fun H' m => .inl (.inr ⟨o, m.frz _ _ _ q⟩)
      · exact fun H' m => .inr q
    refine ⟨_, (pss_one (ps_ret (pe_call (ok_answers_on T) (hr.mono (by decide)) rfl T.g_answers_on.mg T.g_answers_on.fn.kp T.g_answers_on.bd .nil pass0 (pa_cons (pe_make0 T.mk_Host (ok_Host_init T) (hr.mono (by decide)) rfl T.mg_Host T.m_Host_init.bd .nil pass0) (pa_cons (pv 0) pa_nil))))), ?_⟩
    try dsimp only [cxOf, Cx.nox, Cx.wish]
    walk_at "rd"
    intro h dx nh nd ne
    refine ⟨h, dx, rfl, upd_same, fun L' H' R kp own dom => ⟨rfl, ?_⟩⟩
    walk_at "rd"
    have nh1 : upd H dx (.own h) h = none := by rw [upd_ne (Ne.symm ne)]; exact nh
    have mo : Mono H H' := ⟨fun b o u e => kp b _ (by rw [upd_ne (ne_of_none e nh), upd_ne (ne_of_none e nd)]; exact e) (ne_of_none e nh), fun b xs e => kp b _ (by rw [upd_ne (ne_of_none e nh), upd_ne (ne_of_none e nd)]; exact e) (ne_of_none e nh)⟩
    exact ⟨h, a, L', ns, rfl, R, cl.mono mo, ask, k⟩
theorem bind_answers {f : Addr} {fd : FuncData} (F : Fun K "answers" "answers" s_answers f fd) : ∀ (s : Shared) (u : Value), BindsTo s fd ⟨[u], []⟩ [("calls", u)] := by
  obtain ⟨oc, od, kV, doc, pm, an, cdv, ct, osl, rfl, lk, hcd⟩ := F.ex
  exact fun s u => .of_eq rfl
end
end My
open PySem PySem.W PyProof.Rows
def PySem.W.Fast.tw11155221198522436062 : Unit := ()
def PySem.W.Fast.tw11885576931963576573 : Unit := ()
def PySem.W.Fast.tw11642653998239491407 : Unit := ()
def PySem.W.Fast.tw5345806052635762671 : Unit := ()
def PySem.W.Fast.tw10759246464642534024 : Unit := ()
def PySem.W.Fast.tw5283781659021211202 : Unit := ()
def PySem.W.Fast.tw1311236461636420848 : Unit := ()
def PySem.W.Fast.tw8429909759542422815 : Unit := ()
def PySem.W.Fast.tw13018891247587741465 : Unit := ()
def PySem.W.Fast.tw6797232263390453817 : Unit := ()
def PySem.W.Fast.tw8092116844859561046 : Unit := ()
def PySem.W.Fast.tw14330085120507223430 : Unit := ()
def PySem.W.Fast.tw2285523760482198487 : Unit := ()
def PySem.W.Fast.tw6483095086690636813 : Unit := ()
def PySem.W.Fast.tw449753456780233728 : Unit := ()
def PySem.W.Fast.tw7572593176636146069 : Unit := ()
def PySem.W.Fast.tw15757037039146248937 : Unit := ()
def PySem.W.Fast.tw18016637207580947606 : Unit := ()
def PySem.W.Fast.tw7042035338924147253 : Unit := ()
def PySem.W.Fast.tw5456955913954845400 : Unit := ()
def PySem.W.Fast.tw7885041443407040874 : Unit := ()
def PySem.W.Fast.tw16365748029796132063 : Unit := ()
def PySem.W.Fast.tw6666473616186443417 : Unit := ()
def PySem.W.Fast.tw10203155487580070720 : Unit := ()
def PySem.W.Fast.tw4191659948145497299 : Unit := ()
def PySem.W.Fast.tw13735848694976094691 : Unit := ()
def PySem.W.Fast.tw8691498959840077054 : Unit := ()
def PySem.W.Fast.tw750796380706544586 : Unit := ()
def PySem.W.Fast.tw17560537755467461360 : Unit := ()
set_option maxRecDepth 100000 in
set_option maxHeartbeats 0 in
theorem PySem.Challenge.cw_idlehosts_s01_answers_holds : PySem.Challenge.rw_idlehosts_s01_answers.Holds := by
  w_on; k_headS; (case hw => exact ⟨[.list [.int 0, .int 0, .int 2, .int 0]], by decide +kernel, by decide +kernel⟩)
  k_fillS
  refine My.walk_spec (k := 9) (x := "calls") (CX := L2.CX0) (sp := My.sp_answers) (by decide) rfl ⟨rfl, by decide, by decide⟩ (fun w h Y => PySem.W.kIn_of Y) ?F ?S ?C
  case F =>
    intro w mg fa h KX G hmg
    have T : ∃ A, My.Txt (L2.KOf KX) mg A := by
      dsimp only [L2.KOf]
      refine' My.txt_mk KX G ?a_Token ?pg_Token ?hd_Token ?po_Token ?sa_Token ?mk_Token ?kc_Token ?na_Token_black ?na_Token_total ?a_Recording ?pg_Recording ?hd_Recording ?po_Recording ?sa_Recording ?mk_Recording ?kc_Recording ?na_Recording_number ?na_Recording_state ?na_Recording_ways ?na_Recording_works ?na_Recording_too_much ?a_Host ?pg_Host ?hd_Host ?po_Host ?sa_Host ?mk_Host ?kc_Host ?na_Host_me ?na_Host_n ?na_Host_active ?na_Host_state ?na_Host_outgoing ?na_Host_works ?na_Host_balance ?na_Host_black ?na_Host_watching ?na_Host_token ?na_Host_found ?na_Host_cut_number ?na_Host_records ?na_Host_recordings ?na_Host_waits ?na_Host_owes ?na_Host_suspect_number ?na_Host_counted ?na_Host_locked ?a_Reader ?pg_Reader ?hd_Reader ?po_Reader ?sa_Reader ?mk_Reader ?kc_Reader ?na_Reader_numbers ?na_Reader_at ?a_four_bytes ?l_four_bytes ?cc_four_bytes ?kp_four_bytes ?a_number_at ?l_number_at ?cc_number_at ?kp_number_at ?a_work_message ?l_work_message ?cc_work_message ?kp_work_message ?a_token_message ?l_token_message ?cc_token_message ?kp_token_message ?a_marker_message ?l_marker_message ?cc_marker_message ?kp_marker_message ?a_record_message ?l_record_message ?cc_record_message ?kp_record_message ?a_want_message ?l_want_message ?cc_want_message ?kp_want_message ?a_grant_message ?l_grant_message ?cc_grant_message ?kp_grant_message ?a_probe_message ?l_probe_message ?cc_probe_message ?kp_probe_message ?a_record_bytes ?l_record_bytes ?cc_record_bytes ?kp_record_bytes ?a_end_of_row ?l_end_of_row ?cc_end_of_row ?kp_end_of_row ?a_end_of_works ?l_end_of_works ?cc_end_of_works ?kp_end_of_works ?a_is_right_record ?l_is_right_record ?cc_is_right_record ?kp_is_right_record ?a_is_right ?l_is_right ?cc_is_right ?kp_is_right ?a_message_comes ?l_message_comes ?cc_message_comes ?kp_message_comes ?a_dt_begin ?l_dt_begin ?cc_dt_begin ?kp_dt_begin ?a_dt_state ?l_dt_state ?cc_dt_state ?kp_dt_state ?a_dt_send ?l_dt_send ?cc_dt_send ?kp_dt_send ?a_dt_idle ?l_dt_idle ?cc_dt_idle ?kp_dt_idle ?a_dt_watch ?l_dt_watch ?cc_dt_watch ?kp_dt_watch ?a_dt_snapshot ?l_dt_snapshot ?cc_dt_snapshot ?kp_dt_snapshot ?a_dt_want ?l_dt_want ?cc_dt_want ?kp_dt_want ?a_dt_grant ?l_dt_grant ?cc_dt_grant ?kp_dt_grant ?a_dt_suspect ?l_dt_suspect ?cc_dt_suspect ?kp_dt_suspect ?a_dt_message ?l_dt_message ?cc_dt_message ?kp_dt_message ?a_take_first ?l_take_first ?cc_take_first ?kp_take_first ?a_dt_output ?l_dt_output ?cc_dt_output ?kp_dt_output ?a_dt_take ?l_dt_take ?cc_dt_take ?kp_dt_take ?a_dt_cut ?l_dt_cut ?cc_dt_cut ?kp_dt_cut ?a_as_bits ?l_as_bits ?cc_as_bits ?kp_as_bits ?a_dt_told ?l_dt_told ?cc_dt_told ?kp_dt_told ?a_Token_init ?i_Token_init ?l_Token_init ?cc_Token_init ?kp_Token_init ?a_Recording_init ?i_Recording_init ?l_Recording_init ?cc_Recording_init ?kp_Recording_init ?a_Recording_put_work ?i_Recording_put_work ?l_Recording_put_work ?cc_Recording_put_work ?kp_Recording_put_work ?a_Host_init ?i_Host_init ?l_Host_init ?cc_Host_init ?kp_Host_init ?a_Host_begin ?i_Host_begin ?l_Host_begin ?cc_Host_begin ?kp_Host_begin ?a_Host_is_busy ?i_Host_is_busy ?l_Host_is_busy ?cc_Host_is_busy ?kp_Host_is_busy ?a_Host_is_other ?i_Host_is_other ?l_Host_is_other ?cc_Host_is_other ?kp_Host_is_other ?a_Host_send ?i_Host_send ?l_Host_send ?cc_Host_send ?kp_Host_send ?a_Host_send_to_all ?i_Host_send_to_all ?l_Host_send_to_all ?cc_Host_send_to_all ?kp_Host_send_to_all ?a_Host_send_work ?i_Host_send_work ?l_Host_send_work ?cc_Host_send_work ?kp_Host_send_work ?a_Host_work_comes ?i_Host_work_comes ?l_Host_work_comes ?cc_Host_work_comes ?kp_Host_work_comes ?a_Host_become_idle ?i_Host_become_idle ?l_Host_become_idle ?cc_Host_become_idle ?kp_Host_become_idle ?a_Host_watch ?i_Host_watch ?l_Host_watch ?cc_Host_watch ?kp_Host_watch ?a_Host_token_comes ?i_Host_token_comes ?l_Host_token_comes ?cc_Host_token_comes ?kp_Host_token_comes ?a_Host_pass_token ?i_Host_pass_token ?l_Host_pass_token ?cc_Host_pass_token ?kp_Host_pass_token ?a_Host_last_cut_is_whole ?i_Host_last_cut_is_whole ?l_Host_last_cut_is_whole ?cc_Host_last_cut_is_whole ?kp_Host_last_cut_is_whole ?a_Host_begin_cut ?i_Host_begin_cut ?l_Host_begin_cut ?cc_Host_begin_cut ?kp_Host_begin_cut ?a_Host_begin_recording ?i_Host_begin_recording ?l_Host_begin_recording ?cc_Host_begin_recording ?kp_Host_begin_recording ?a_Host_marker_comes ?i_Host_marker_comes ?l_Host_marker_comes ?cc_Host_marker_comes ?kp_Host_marker_comes ?a_Host_end_recording_if_done ?i_Host_end_recording_if_done ?l_Host_end_recording_if_done ?cc_Host_end_recording_if_done ?kp_Host_end_recording_if_done ?a_Host_record_comes ?i_Host_record_comes ?l_Host_record_comes ?cc_Host_record_comes ?kp_Host_record_comes ?a_Host_cut_bytes ?i_Host_cut_bytes ?l_Host_cut_bytes ?cc_Host_cut_bytes ?kp_Host_cut_bytes ?a_Host_is_blocked ?i_Host_is_blocked ?l_Host_is_blocked ?cc_Host_is_blocked ?kp_Host_is_blocked ?a_Host_want ?i_Host_want ?l_Host_want ?cc_Host_want ?kp_Host_want ?a_Host_want_comes ?i_Host_want_comes ?l_Host_want_comes ?cc_Host_want_comes ?kp_Host_want_comes ?a_Host_grant ?i_Host_grant ?l_Host_grant ?cc_Host_grant ?kp_Host_grant ?a_Host_grant_comes ?i_Host_grant_comes ?l_Host_grant_comes ?cc_Host_grant_comes ?kp_Host_grant_comes ?a_Host_suspect ?i_Host_suspect ?l_Host_suspect ?cc_Host_suspect ?kp_Host_suspect ?a_Host_send_probe ?i_Host_send_probe ?l_Host_send_probe ?cc_Host_send_probe ?kp_Host_send_probe ?a_Host_probe_comes ?i_Host_probe_comes ?l_Host_probe_comes ?cc_Host_probe_comes ?kp_Host_probe_comes ?a_Reader_init ?i_Reader_init ?l_Reader_init ?cc_Reader_init ?kp_Reader_init ?a_Reader_has_more ?i_Reader_has_more ?l_Reader_has_more ?cc_Reader_has_more ?kp_Reader_has_more ?a_Reader_take_number ?i_Reader_take_number ?l_Reader_take_number ?cc_Reader_take_number ?kp_Reader_take_number ?a_Reader_take_row ?i_Reader_take_row ?l_Reader_take_row ?cc_Reader_take_row ?kp_Reader_take_row ?a_answer_one ?l_answer_one ?cc_answer_one ?kp_answer_one ?a_answers_on ?l_answers_on ?cc_answers_on ?kp_answers_on ?a_answers ?l_answers ?cc_answers ?kp_answers ?k_WORK ?k_TOKEN ?k_MARKER ?k_RECORD ?k_WANT_messages ?k_GRANT_messages ?k_PROBE ?k_MOST_BYTES ?k_MOST_WORKS ?k_SIX_BYTES ?k_TOO_MUCH_AT ?k_STATE_AT ?k_NO_ROOM ?k_WRONG ?k_NOT_NOW ?k_TOO_MANY ?k_MOST_HOSTS ?k_MOST_MESSAGE ?k_MOST_WAITING ?k_LAST_NUMBER ?k_TOLD_BELOW ?k_MOST_OUTGOING ?k_GOES_ROUND_AT ?k_BEGIN ?k_STATE ?k_SEND ?k_IDLE ?k_WATCH ?k_SNAPSHOT ?k_WANT_host ?k_GRANT_host ?k_SUSPECT ?k_MESSAGE ?k_OUTPUT ?k_TAKE ?k_CUT ?k_TOLD ?b_any ?b_len ?b_list ?b_range ?b_reversed
      (case a_Token => k_is)
      (case pg_Token => k_is)
      (case hd_Token => k_is)
      (case po_Token => k_is)
      (case sa_Token => k_is)
      (case mk_Token => k_is)
      (case kc_Token => k_is)
      (case na_Token_black => k_is)
      (case na_Token_total => k_is)
      (case a_Recording => k_is)
      (case pg_Recording => k_is)
      (case hd_Recording => k_is)
      (case po_Recording => k_is)
      (case sa_Recording => k_is)
      (case mk_Recording => k_is)
      (case kc_Recording => k_is)
      (case na_Recording_number => k_is)
      (case na_Recording_state => k_is)
      (case na_Recording_ways => k_is)
      (case na_Recording_works => k_is)
      (case na_Recording_too_much => k_is)
      (case a_Host => k_is)
      (case pg_Host => k_is)
      (case hd_Host => k_is)
      (case po_Host => k_is)
      (case sa_Host => k_is)
      (case mk_Host => k_is)
      (case kc_Host => k_is)
      (case na_Host_me => k_is)
      (case na_Host_n => k_is)
      (case na_Host_active => k_is)
      (case na_Host_state => k_is)
      (case na_Host_outgoing => k_is)
      (case na_Host_works => k_is)
      (case na_Host_balance => k_is)
      (case na_Host_black => k_is)
      (case na_Host_watching => k_is)
      (case na_Host_token => k_is)
      (case na_Host_found => k_is)
      (case na_Host_cut_number => k_is)
      (case na_Host_records => k_is)
      (case na_Host_recordings => k_is)
      (case na_Host_waits => k_is)
      (case na_Host_owes => k_is)
      (case na_Host_suspect_number => k_is)
      (case na_Host_counted => k_is)
      (case na_Host_locked => k_is)
      (case a_Reader => k_is)
      (case pg_Reader => k_is)
      (case hd_Reader => k_is)
      (case po_Reader => k_is)
      (case sa_Reader => k_is)
      (case mk_Reader => k_is)
      (case kc_Reader => k_is)
      (case na_Reader_numbers => k_is)
      (case na_Reader_at => k_is)
      (case a_four_bytes => k_is)
      (case l_four_bytes => k_is)
      (case cc_four_bytes => k_is)
      (case kp_four_bytes => k_is)
      (case a_number_at => k_is)
      (case l_number_at => k_is)
      (case cc_number_at => k_is)
      (case kp_number_at => k_is)
      (case a_work_message => k_is)
      (case l_work_message => k_is)
      (case cc_work_message => k_is)
      (case kp_work_message => k_is)
      (case a_token_message => k_is)
      (case l_token_message => k_is)
      (case cc_token_message => k_is)
      (case kp_token_message => k_is)
      (case a_marker_message => k_is)
      (case l_marker_message => k_is)
      (case cc_marker_message => k_is)
      (case kp_marker_message => k_is)
      (case a_record_message => k_is)
      (case l_record_message => k_is)
      (case cc_record_message => k_is)
      (case kp_record_message => k_is)
      (case a_want_message => k_is)
      (case l_want_message => k_is)
      (case cc_want_message => k_is)
      (case kp_want_message => k_is)
      (case a_grant_message => k_is)
      (case l_grant_message => k_is)
      (case cc_grant_message => k_is)
      (case kp_grant_message => k_is)
      (case a_probe_message => k_is)
      (case l_probe_message => k_is)
      (case cc_probe_message => k_is)
      (case kp_probe_message => k_is)
      (case a_record_bytes => k_is)
      (case l_record_bytes => k_is)
      (case cc_record_bytes => k_is)
      (case kp_record_bytes => k_is)
      (case a_end_of_row => k_is)
      (case l_end_of_row => k_is)
      (case cc_end_of_row => k_is)
      (case kp_end_of_row => k_is)
      (case a_end_of_works => k_is)
      (case l_end_of_works => k_is)
      (case cc_end_of_works => k_is)
      (case kp_end_of_works => k_is)
      (case a_is_right_record => k_is)
      (case l_is_right_record => k_is)
      (case cc_is_right_record => k_is)
      (case kp_is_right_record => k_is)
      (case a_is_right => k_is)
      (case l_is_right => k_is)
      (case cc_is_right => k_is)
      (case kp_is_right => k_is)
      (case a_message_comes => k_is)
      (case l_message_comes => k_is)
      (case cc_message_comes => k_is)
      (case kp_message_comes => k_is)
      (case a_dt_begin => k_is)
      (case l_dt_begin => k_is)
      (case cc_dt_begin => k_is)
      (case kp_dt_begin => k_is)
      (case a_dt_state => k_is)
      (case l_dt_state => k_is)
      (case cc_dt_state => k_is)
      (case kp_dt_state => k_is)
      (case a_dt_send => k_is)
      (case l_dt_send => k_is)
      (case cc_dt_send => k_is)
      (case kp_dt_send => k_is)
      (case a_dt_idle => k_is)
      (case l_dt_idle => k_is)
      (case cc_dt_idle => k_is)
      (case kp_dt_idle => k_is)
      (case a_dt_watch => k_is)
      (case l_dt_watch => k_is)
      (case cc_dt_watch => k_is)
      (case kp_dt_watch => k_is)
      (case a_dt_snapshot => k_is)
      (case l_dt_snapshot => k_is)
      (case cc_dt_snapshot => k_is)
      (case kp_dt_snapshot => k_is)
      (case a_dt_want => k_is)
      (case l_dt_want => k_is)
      (case cc_dt_want => k_is)
      (case kp_dt_want => k_is)
      (case a_dt_grant => k_is)
      (case l_dt_grant => k_is)
      (case cc_dt_grant => k_is)
      (case kp_dt_grant => k_is)
      (case a_dt_suspect => k_is)
      (case l_dt_suspect => k_is)
      (case cc_dt_suspect => k_is)
      (case kp_dt_suspect => k_is)
      (case a_dt_message => k_is)
      (case l_dt_message => k_is)
      (case cc_dt_message => k_is)
      (case kp_dt_message => k_is)
      (case a_take_first => k_is)
      (case l_take_first => k_is)
      (case cc_take_first => k_is)
      (case kp_take_first => k_is)
      (case a_dt_output => k_is)
      (case l_dt_output => k_is)
      (case cc_dt_output => k_is)
      (case kp_dt_output => k_is)
      (case a_dt_take => k_is)
      (case l_dt_take => k_is)
      (case cc_dt_take => k_is)
      (case kp_dt_take => k_is)
      (case a_dt_cut => k_is)
      (case l_dt_cut => k_is)
      (case cc_dt_cut => k_is)
      (case kp_dt_cut => k_is)
      (case a_as_bits => k_is)
      (case l_as_bits => k_is)
      (case cc_as_bits => k_is)
      (case kp_as_bits => k_is)
      (case a_dt_told => k_is)
      (case l_dt_told => k_is)
      (case cc_dt_told => k_is)
      (case kp_dt_told => k_is)
      (case a_Token_init => k_is)
      (case i_Token_init => k_is)
      (case l_Token_init => k_is)
      (case cc_Token_init => k_is)
      (case kp_Token_init => k_is)
      (case a_Recording_init => k_is)
      (case i_Recording_init => k_is)
      (case l_Recording_init => k_is)
      (case cc_Recording_init => k_is)
      (case kp_Recording_init => k_is)
      (case a_Recording_put_work => k_is)
      (case i_Recording_put_work => k_is)
      (case l_Recording_put_work => k_is)
      (case cc_Recording_put_work => k_is)
      (case kp_Recording_put_work => k_is)
      (case a_Host_init => k_is)
      (case i_Host_init => k_is)
      (case l_Host_init => k_is)
      (case cc_Host_init => k_is)
      (case kp_Host_init => k_is)
      (case a_Host_begin => k_is)
      (case i_Host_begin => k_is)
      (case l_Host_begin => k_is)
      (case cc_Host_begin => k_is)
      (case kp_Host_begin => k_is)
      (case a_Host_is_busy => k_is)
      (case i_Host_is_busy => k_is)
      (case l_Host_is_busy => k_is)
      (case cc_Host_is_busy => k_is)
      (case kp_Host_is_busy => k_is)
      (case a_Host_is_other => k_is)
      (case i_Host_is_other => k_is)
      (case l_Host_is_other => k_is)
      (case cc_Host_is_other => k_is)
      (case kp_Host_is_other => k_is)
      (case a_Host_send => k_is)
      (case i_Host_send => k_is)
      (case l_Host_send => k_is)
      (case cc_Host_send => k_is)
      (case kp_Host_send => k_is)
      (case a_Host_send_to_all => k_is)
      (case i_Host_send_to_all => k_is)
      (case l_Host_send_to_all => k_is)
      (case cc_Host_send_to_all => k_is)
      (case kp_Host_send_to_all => k_is)
      (case a_Host_send_work => k_is)
      (case i_Host_send_work => k_is)
      (case l_Host_send_work => k_is)
      (case cc_Host_send_work => k_is)
      (case kp_Host_send_work => k_is)
      (case a_Host_work_comes => k_is)
      (case i_Host_work_comes => k_is)
      (case l_Host_work_comes => k_is)
      (case cc_Host_work_comes => k_is)
      (case kp_Host_work_comes => k_is)
      (case a_Host_become_idle => k_is)
      (case i_Host_become_idle => k_is)
      (case l_Host_become_idle => k_is)
      (case cc_Host_become_idle => k_is)
      (case kp_Host_become_idle => k_is)
      (case a_Host_watch => k_is)
      (case i_Host_watch => k_is)
      (case l_Host_watch => k_is)
      (case cc_Host_watch => k_is)
      (case kp_Host_watch => k_is)
      (case a_Host_token_comes => k_is)
      (case i_Host_token_comes => k_is)
      (case l_Host_token_comes => k_is)
      (case cc_Host_token_comes => k_is)
      (case kp_Host_token_comes => k_is)
      (case a_Host_pass_token => k_is)
      (case i_Host_pass_token => k_is)
      (case l_Host_pass_token => k_is)
      (case cc_Host_pass_token => k_is)
      (case kp_Host_pass_token => k_is)
      (case a_Host_last_cut_is_whole => k_is)
      (case i_Host_last_cut_is_whole => k_is)
      (case l_Host_last_cut_is_whole => k_is)
      (case cc_Host_last_cut_is_whole => k_is)
      (case kp_Host_last_cut_is_whole => k_is)
      (case a_Host_begin_cut => k_is)
      (case i_Host_begin_cut => k_is)
      (case l_Host_begin_cut => k_is)
      (case cc_Host_begin_cut => k_is)
      (case kp_Host_begin_cut => k_is)
      (case a_Host_begin_recording => k_is)
      (case i_Host_begin_recording => k_is)
      (case l_Host_begin_recording => k_is)
      (case cc_Host_begin_recording => k_is)
      (case kp_Host_begin_recording => k_is)
      (case a_Host_marker_comes => k_is)
      (case i_Host_marker_comes => k_is)
      (case l_Host_marker_comes => k_is)
      (case cc_Host_marker_comes => k_is)
      (case kp_Host_marker_comes => k_is)
      (case a_Host_end_recording_if_done => k_is)
      (case i_Host_end_recording_if_done => k_is)
      (case l_Host_end_recording_if_done => k_is)
      (case cc_Host_end_recording_if_done => k_is)
      (case kp_Host_end_recording_if_done => k_is)
      (case a_Host_record_comes => k_is)
      (case i_Host_record_comes => k_is)
      (case l_Host_record_comes => k_is)
      (case cc_Host_record_comes => k_is)
      (case kp_Host_record_comes => k_is)
      (case a_Host_cut_bytes => k_is)
      (case i_Host_cut_bytes => k_is)
      (case l_Host_cut_bytes => k_is)
      (case cc_Host_cut_bytes => k_is)
      (case kp_Host_cut_bytes => k_is)
      (case a_Host_is_blocked => k_is)
      (case i_Host_is_blocked => k_is)
      (case l_Host_is_blocked => k_is)
      (case cc_Host_is_blocked => k_is)
      (case kp_Host_is_blocked => k_is)
      (case a_Host_want => k_is)
      (case i_Host_want => k_is)
      (case l_Host_want => k_is)
      (case cc_Host_want => k_is)
      (case kp_Host_want => k_is)
      (case a_Host_want_comes => k_is)
      (case i_Host_want_comes => k_is)
      (case l_Host_want_comes => k_is)
      (case cc_Host_want_comes => k_is)
      (case kp_Host_want_comes => k_is)
      (case a_Host_grant => k_is)
      (case i_Host_grant => k_is)
      (case l_Host_grant => k_is)
      (case cc_Host_grant => k_is)
      (case kp_Host_grant => k_is)
      (case a_Host_grant_comes => k_is)
      (case i_Host_grant_comes => k_is)
      (case l_Host_grant_comes => k_is)
      (case cc_Host_grant_comes => k_is)
      (case kp_Host_grant_comes => k_is)
      (case a_Host_suspect => k_is)
      (case i_Host_suspect => k_is)
      (case l_Host_suspect => k_is)
      (case cc_Host_suspect => k_is)
      (case kp_Host_suspect => k_is)
      (case a_Host_send_probe => k_is)
      (case i_Host_send_probe => k_is)
      (case l_Host_send_probe => k_is)
      (case cc_Host_send_probe => k_is)
      (case kp_Host_send_probe => k_is)
      (case a_Host_probe_comes => k_is)
      (case i_Host_probe_comes => k_is)
      (case l_Host_probe_comes => k_is)
      (case cc_Host_probe_comes => k_is)
      (case kp_Host_probe_comes => k_is)
      (case a_Reader_init => k_is)
      (case i_Reader_init => k_is)
      (case l_Reader_init => k_is)
      (case cc_Reader_init => k_is)
      (case kp_Reader_init => k_is)
      (case a_Reader_has_more => k_is)
      (case i_Reader_has_more => k_is)
      (case l_Reader_has_more => k_is)
      (case cc_Reader_has_more => k_is)
      (case kp_Reader_has_more => k_is)
      (case a_Reader_take_number => k_is)
      (case i_Reader_take_number => k_is)
      (case l_Reader_take_number => k_is)
      (case cc_Reader_take_number => k_is)
      (case kp_Reader_take_number => k_is)
      (case a_Reader_take_row => k_is)
      (case i_Reader_take_row => k_is)
      (case l_Reader_take_row => k_is)
      (case cc_Reader_take_row => k_is)
      (case kp_Reader_take_row => k_is)
      (case a_answer_one => k_is)
      (case l_answer_one => k_is)
      (case cc_answer_one => k_is)
      (case kp_answer_one => k_is)
      (case a_answers_on => k_is)
      (case l_answers_on => k_is)
      (case cc_answers_on => k_is)
      (case kp_answers_on => k_is)
      (case a_answers => k_is)
      (case l_answers => k_is)
      (case cc_answers => k_is)
      (case kp_answers => k_is)
      (case k_WORK => k_is)
      (case k_TOKEN => k_is)
      (case k_MARKER => k_is)
      (case k_RECORD => k_is)
      (case k_WANT_messages => k_is)
      (case k_GRANT_messages => k_is)
      (case k_PROBE => k_is)
      (case k_MOST_BYTES => k_is)
      (case k_MOST_WORKS => k_is)
      (case k_SIX_BYTES => k_is)
      (case k_TOO_MUCH_AT => k_is)
      (case k_STATE_AT => k_is)
      (case k_NO_ROOM => k_is)
      (case k_WRONG => k_is)
      (case k_NOT_NOW => k_is)
      (case k_TOO_MANY => k_is)
      (case k_MOST_HOSTS => k_is)
      (case k_MOST_MESSAGE => k_is)
      (case k_MOST_WAITING => k_is)
      (case k_LAST_NUMBER => k_is)
      (case k_TOLD_BELOW => k_is)
      (case k_MOST_OUTGOING => k_is)
      (case k_GOES_ROUND_AT => k_is)
      (case k_BEGIN => k_is)
      (case k_STATE => k_is)
      (case k_SEND => k_is)
      (case k_IDLE => k_is)
      (case k_WATCH => k_is)
      (case k_SNAPSHOT => k_is)
      (case k_WANT_host => k_is)
      (case k_GRANT_host => k_is)
      (case k_SUSPECT => k_is)
      (case k_MESSAGE => k_is)
      (case k_OUTPUT => k_is)
      (case k_TAKE => k_is)
      (case k_CUT => k_is)
      (case k_TOLD => k_is)
      (case b_any => k_is)
      (case b_len => k_is)
      (case b_list => k_is)
      (case b_range => k_is)
      (case b_reversed => k_is)
    obtain ⟨A, T⟩ := T
    have e0 := hmg.symm.trans T.g_answers.mg
    cases e0
    exact ⟨A.d_answers, My.bind_answers T.g_answers.fn, fun base kb nb => My.ok_answers T⟩
  case S =>
    intro K H a ns hl hall hask hO hS
    exact ⟨a, ns, rfl, hO, hS, hask, fun b H' h => ⟨b, rfl, h⟩⟩
  case C => exact fun _ _ _ _ z => z
