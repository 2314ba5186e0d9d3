/- Lines of two, three, four and seven words. -/
import Derived.Test.YteebdpnpeglimaaDoorFormL
namespace Go.Proofs.YteebdpnpeglimaaDoor
open Go.RowKit
set_option linter.unusedVariables false
theorem bytes_inj' {a b : ByteArray} (h : a.data.toList = b.data.toList) : a = b := by
  obtain ⟨⟨x⟩⟩ := a
  obtain ⟨⟨y⟩⟩ := b
  simp only at h
  subst h
  rfl
def wd (l : List UInt8) : ByteArray := ⟨l.toArray⟩
theorem catL_data : ∀ (l : List ByteArray), (catL l).data.toList = (l.map (·.data.toList)).flatten
  | [] => rfl
  | x :: l => by
    have h : ∀ (l : List ByteArray) (x : ByteArray), (l.foldl (· ++ ·) x).data.toList = x.data.toList ++ (l.map (·.data.toList)).flatten := by
      intro l
      induction l with
      | nil => intro x; simp
      | cons y l ih => intro x; rw [List.foldl_cons, ih]; simp
    exact h l x
theorem joinT_data (xs : List ByteArray) : (joinT xs).data.toList = Lib.join (xs.map (·.data.toList)) [32] := by simp [joinT]
theorem line2 (l : List UInt8) (a b : ByteArray) : lineT (wd l) [a, b] = catL [wd (l ++ [32]), a, { data := #[32] }, b, { data := #[10] }] := by
  apply bytes_inj'
  unfold lineT
  rw [catL_data, catL_data]
  simp [joinT_data, Lib.join_cons, Lib.joinTail, wd]
theorem line3 (l : List UInt8) (a b c : ByteArray) : lineT (wd l) [a, b, c] = catL [wd (l ++ [32]), a, { data := #[32] }, b, { data := #[32] }, c, { data := #[10] }] := by
  apply bytes_inj'
  unfold lineT
  rw [catL_data, catL_data]
  simp [joinT_data, Lib.join_cons, Lib.joinTail, wd]
theorem line4 (l : List UInt8) (a b c d : ByteArray) : lineT (wd l) [a, b, c, d] = catL [wd (l ++ [32]), a, { data := #[32] }, b, { data := #[32] }, c, { data := #[32] }, d, { data := #[10] }] := by
  apply bytes_inj'
  unfold lineT
  rw [catL_data, catL_data]
  simp [joinT_data, Lib.join_cons, Lib.joinTail, wd]
theorem line7 (l : List UInt8) (a b c d e f g : ByteArray) : lineT (wd l) [a, b, c, d, e, f, g] = catL [wd (l ++ [32]), a, { data := #[32] }, b, { data := #[32] }, c, { data := #[32] }, d, { data := #[32] }, e, { data := #[32] }, f, { data := #[32] }, g, { data := #[10] }] := by
  apply bytes_inj'
  unfold lineT
  rw [catL_data, catL_data]
  simp [joinT_data, Lib.join_cons, Lib.joinTail, wd]
theorem wantT_line (r : W.WantD) : wantT r = lineT (wd [119, 97, 110, 116]) [r.c, decT r.v, holdT r.h, decT r.p, decT r.s, decT r.d, decT r.g] := by
  rw [line7]
  rfl
end Go.Proofs.YteebdpnpeglimaaDoor
