import Derived.Test.YtgakmkhbnjofhaaGreatDoorJ16
import Derived.Test.YtgakmkhbnjofhaaGreatDoorShelf
import Derived.Lib.Join
/- A line: what the program writes. -/
namespace Go.Proofs.YtgakmkhbnjofhaaGreatDoor
open Go.RowKit
set_option linter.unusedVariables false

def joinT (xs : List ByteArray) : ByteArray := ⟨(Lib.join (xs.map (·.data.toList)) [32]).toArray⟩
theorem joinTail_le (M : Nat) : ∀ (xs : List ByteArray), (∀ x ∈ xs, x.size ≤ M) → (Lib.joinTail [32] (xs.map (·.data.toList))).length ≤ xs.length * (M + 1)
  | [], _ => by simp [Lib.joinTail]
  | x :: xs, h => by
    have h1 := joinTail_le M xs (fun q hq => h q (List.mem_cons_of_mem _ hq))
    have h2 : x.data.toList.length ≤ M := by have := h x (List.mem_cons_self ..); rw [Array.length_toList]; exact this
    unfold Lib.joinTail at h1 ⊢
    simp only [List.map_cons, List.flatten_cons, List.length_append, List.length_cons, List.length_nil, Nat.succ_mul] at h1 ⊢
    omega
theorem join_le (M : Nat) (xs : List ByteArray) (h : ∀ x ∈ xs, x.size ≤ M) : (Lib.join (xs.map (·.data.toList)) [32]).length ≤ xs.length * (M + 1) := by
  cases xs with
  | nil => rw [List.map_nil, Lib.join_nil]; exact Nat.zero_le _
  | cons x xs =>
    have h1 := joinTail_le M xs (fun q hq => h q (List.mem_cons_of_mem _ hq))
    have h2 : x.data.toList.length ≤ M := by have := h x (List.mem_cons_self ..); rw [Array.length_toList]; exact this
    rw [List.map_cons, Lib.join_cons, List.length_append, List.length_cons, Nat.succ_mul]
    omega
theorem joinT_size (M : Nat) (xs : List ByteArray) (h : ∀ x ∈ xs, x.size ≤ M) : (joinT xs).size ≤ xs.length * (M + 1) := by
  have h1 := join_le M xs h
  show (Lib.join (xs.map (·.data.toList)) [32]).toArray.size ≤ _
  rw [List.size_toArray]
  exact h1
/-- A line of a word and others. -/
def lineT (word : ByteArray) (xs : List ByteArray) : ByteArray := catL [word, { data := #[32] }, joinT xs, { data := #[10] }]

set_option maxRecDepth 4000 in
set_option maxHeartbeats 2000000 in
theorem implLine (word : ByteArray) (bk c : Nat) (xs : List ByteArray) (w : World) (hcells : ∀ (j : Nat) x, xs[j]? = some x → w.cell? ⟨bk, j, none⟩ = some (.string x)) (hbk : bk < w.heap.size) (hN : xs.length ≤ 100) (hcap : xs.length ≤ c)
    (hz : ∀ x ∈ xs, x.size ≤ 1000000000) (hw : word.size ≤ 1000000000) :
    Calls Tryz.prog 22 #[.string word, .slice (some ⟨bk, 0, none⟩) xs.length c] w fun e w' => e = .returned (.string (lineT word xs)) ∧ Below w.heap.size w w' := by
  have hj := join_le 1000000000 xs hz
  have hj2 : (joinT xs).size ≤ 200000000000 := by
    have h1 := joinT_size 1000000000 xs hz
    have h2 : xs.length * 1000000001 ≤ 100 * 1000000001 := Nat.mul_le_mul_right _ hN
    omega
  have hlen : (Lib.join (xs.map (·.data.toList)) [32]).length ≤ 140737488355328 := by
    have h2 : xs.length * 1000000001 ≤ 100 * 1000000001 := Nat.mul_le_mul_right _ hN
    omega
  have HC : Hid (∀ (j : Nat) x, xs[j]? = some x → w.cell? ⟨bk, 0 + j, none⟩ = some (.string x)) := fun j x h => by rw [Nat.zero_add]; exact hcells j x h
  have HL : Hid ((Lib.join (xs.map (·.data.toList)) [32]).length ≤ 140737488355328) := hlen
  have HJ : Hid (joinT xs = ⟨(Lib.join (xs.map (·.data.toList)) [32]).toArray⟩) := rfl
  clear hcells hj hlen hz
  obtain ⟨J, hJ⟩ : ∃ J, J = joinT xs := ⟨_, rfl⟩
  have HJ2 : Hid (J = joinT xs) := hJ
  rw [← hJ] at hj2
  clear hJ
  have hz1 : ¬ (9223372036854775807 < word.size + 1) := by omega
  have hz2 : ¬ (9223372036854775807 < word.size + 1 + J.size) := by omega
  have hz3 : ¬ (9223372036854775807 < word.size + 1 + J.size + 1) := by omega
  go_enter Tryz.func22, Tryz.ntmps22
  go_wp2_with (go_at_call 54; refine (Tryz.strings_Join bk 0 c xs { data := #[32] } _ HC.out hbk (by omega) hcap HL.out).mono ?_; rintro e w1 ⟨rfl, hb⟩; have HB : Hid (Below w.heap.size w w1) := hb; clear hb; rw [show ({ data := (Lib.join (xs.map (·.data.toList)) ({ data := #[32] } : ByteArray).data.toList).toArray } : ByteArray) = J from HJ2.out.symm])
  go_ret
  exact ⟨by show Ending.returned (Value.string (word ++ { data := #[32] } ++ J ++ { data := #[10] })) = _; rw [HJ2.out]; rfl, HB.out⟩
end Go.Proofs.YtgakmkhbnjofhaaGreatDoor
/- Lines of two, three, four and seven words. -/
namespace Go.Proofs.YtgakmkhbnjofhaaGreatDoor
open Go.RowKit
set_option linter.unusedVariables false
theorem bytes_inj' {a b : ByteArray} (h : a.data.toList = b.data.toList) : a = b := by
  obtain ⟨⟨x⟩⟩ := a
  obtain ⟨⟨y⟩⟩ := b
  simp only at h
  subst h
  rfl
def wd (l : List UInt8) : ByteArray := ⟨l.toArray⟩
theorem catL_data : ∀ (l : List ByteArray), (catL l).data.toList = (l.map (·.data.toList)).flatten
  | [] => rfl
  | x :: l => by
    have h : ∀ (l : List ByteArray) (x : ByteArray), (l.foldl (· ++ ·) x).data.toList = x.data.toList ++ (l.map (·.data.toList)).flatten := by
      intro l
      induction l with
      | nil => intro x; simp
      | cons y l ih => intro x; rw [List.foldl_cons, ih]; simp
    exact h l x
theorem joinT_data (xs : List ByteArray) : (joinT xs).data.toList = Lib.join (xs.map (·.data.toList)) [32] := by simp [joinT]
theorem line2 (l : List UInt8) (a b : ByteArray) : lineT (wd l) [a, b] = catL [wd (l ++ [32]), a, { data := #[32] }, b, { data := #[10] }] := by
  apply bytes_inj'
  unfold lineT
  rw [catL_data, catL_data]
  simp [joinT_data, Lib.join_cons, Lib.joinTail, wd]
theorem line3 (l : List UInt8) (a b c : ByteArray) : lineT (wd l) [a, b, c] = catL [wd (l ++ [32]), a, { data := #[32] }, b, { data := #[32] }, c, { data := #[10] }] := by
  apply bytes_inj'
  unfold lineT
  rw [catL_data, catL_data]
  simp [joinT_data, Lib.join_cons, Lib.joinTail, wd]
theorem line4 (l : List UInt8) (a b c d : ByteArray) : lineT (wd l) [a, b, c, d] = catL [wd (l ++ [32]), a, { data := #[32] }, b, { data := #[32] }, c, { data := #[32] }, d, { data := #[10] }] := by
  apply bytes_inj'
  unfold lineT
  rw [catL_data, catL_data]
  simp [joinT_data, Lib.join_cons, Lib.joinTail, wd]
theorem line7 (l : List UInt8) (a b c d e f g : ByteArray) : lineT (wd l) [a, b, c, d, e, f, g] = catL [wd (l ++ [32]), a, { data := #[32] }, b, { data := #[32] }, c, { data := #[32] }, d, { data := #[32] }, e, { data := #[32] }, f, { data := #[32] }, g, { data := #[10] }] := by
  apply bytes_inj'
  unfold lineT
  rw [catL_data, catL_data]
  simp [joinT_data, Lib.join_cons, Lib.joinTail, wd]
theorem wantT_line (r : W.WantD) : wantT r = lineT (wd [119, 97, 110, 116]) [r.c, decT r.v, holdT r.h, decT r.p, decT r.s, decT r.d, decT r.g] := by
  rw [line7]
  rfl
end Go.Proofs.YtgakmkhbnjofhaaGreatDoor
