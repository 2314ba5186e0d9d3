import Derived.Test.YtkebokkckmgloaaJ17
import Derived.Test.YtkebokkckmgloaaJ21
import Derived.Test.YtkebokkckmgloaaJ16
/- Lists whose room is the call's own. -/
namespace Go.Proofs.Ytkebokkckmgloaa
open Go.RowKit
set_option linter.unusedVariables false

def W.Ow (w : World) (v : Value) (l : List W.WantD) (B : Nat) : Prop := w.ownsRow B 36 7 v l.length (W.flatR l)
theorem W.Ow.sl {w : World} {v : Value} {l : List W.WantD} {B : Nat} (h : W.Ow w v l B) : W.Sl w v l B := W.Sl.of_owns h
theorem W.Ow.grown {w w' : World} {v : Value} {l : List W.WantD} {B : Nat} {row : Option Nat} (h : W.Ow w v l B) (hg : w.grownBy w' row) (hne : v.ownBlock = none ∨ v.ownBlock ≠ row) : W.Ow w' v l B :=
  ⟨h.1, h.2.imp id (fun ⟨g, cap, cur, h1, h2, h3, h4⟩ => ⟨g, cap, cur, h1, h2, by
    have hl : g < w.heap.size := by
      rcases Nat.lt_or_ge g w.heap.size with h' | h'
      · exact h'
      · rw [Array.getElem?_eq_none h'] at h3; cases h3
    have hn : some g ≠ row := by subst h1; simpa [Value.ownBlock] using hne
    rw [hg.block g hl hn]; exact h3, h4⟩)⟩
theorem W.Ow.keep {w w' : World} {v : Value} {l : List W.WantD} {B : Nat} (h : W.Ow w v l B) (hb : Below w.heap.size w w') : W.Ow w' v l B := Go.Proofs.Ytkebokkckmgloaa.owns_below h hb
theorem W.Ow.lt {w : World} {v : Value} {l : List W.WantD} {B : Nat} (h : W.Ow w v l B) : ∀ g, v.ownBlock = some g → B ≤ g ∧ g < w.heap.size := W.Sl.lt (W.Ow.sl h)
theorem W.Ow.shape {w : World} {v : Value} {l : List W.WantD} {B : Nat} (h : W.Ow w v l B) : ∃ a p, v = .slice a l.length p := W.Sl.shape (W.Ow.sl h)
theorem W.Ow.low {w : World} {v : Value} {l : List W.WantD} {B B' : Nat} (h : W.Ow w v l B) (hB : B' ≤ B) : W.Ow w v l B' :=
  ⟨h.1, h.2.imp id (fun ⟨g, cap, cur, h1, h2, h3, h4⟩ => ⟨g, cap, cur, h1, Nat.le_trans hB h2, h3, h4⟩)⟩
theorem W.Ow.nil (w : World) (B : Nat) : W.Ow w (.slice none 0 0) [] B := World.ownsRow_nil _ _ _ _
theorem W.Ow.of_owns {w : World} {v : Value} {l : List W.WantD} {B : Nat} (h : w.ownsRow B 36 7 v l.length (W.flatR l)) : W.Ow w v l B := h
def Ow (w : World) (v : Value) (l : List RunD) (B : Nat) : Prop := w.ownsRow B 38 11 v l.length (flatR l)
theorem Ow.sl {w : World} {v : Value} {l : List RunD} {B : Nat} (h : Ow w v l B) : Sl w v l B := Sl.of_owns h
theorem Ow.grown {w w' : World} {v : Value} {l : List RunD} {B : Nat} {row : Option Nat} (h : Ow w v l B) (hg : w.grownBy w' row) (hne : v.ownBlock = none ∨ v.ownBlock ≠ row) : Ow w' v l B :=
  ⟨h.1, h.2.imp id (fun ⟨g, cap, cur, h1, h2, h3, h4⟩ => ⟨g, cap, cur, h1, h2, by
    have hl : g < w.heap.size := by
      rcases Nat.lt_or_ge g w.heap.size with h' | h'
      · exact h'
      · rw [Array.getElem?_eq_none h'] at h3; cases h3
    have hn : some g ≠ row := by subst h1; simpa [Value.ownBlock] using hne
    rw [hg.block g hl hn]; exact h3, h4⟩)⟩
theorem Ow.keep {w w' : World} {v : Value} {l : List RunD} {B : Nat} (h : Ow w v l B) (hb : Below w.heap.size w w') : Ow w' v l B := Go.Proofs.Ytkebokkckmgloaa.owns_below h hb
theorem Ow.lt {w : World} {v : Value} {l : List RunD} {B : Nat} (h : Ow w v l B) : ∀ g, v.ownBlock = some g → B ≤ g ∧ g < w.heap.size := Sl.lt (Ow.sl h)
theorem Ow.shape {w : World} {v : Value} {l : List RunD} {B : Nat} (h : Ow w v l B) : ∃ a p, v = .slice a l.length p := Sl.shape (Ow.sl h)
theorem Ow.low {w : World} {v : Value} {l : List RunD} {B B' : Nat} (h : Ow w v l B) (hB : B' ≤ B) : Ow w v l B' :=
  ⟨h.1, h.2.imp id (fun ⟨g, cap, cur, h1, h2, h3, h4⟩ => ⟨g, cap, cur, h1, Nat.le_trans hB h2, h3, h4⟩)⟩
theorem Ow.nil (w : World) (B : Nat) : Ow w (.slice none 0 0) [] B := World.ownsRow_nil _ _ _ _
theorem Ow.of_owns {w : World} {v : Value} {l : List RunD} {B : Nat} (h : w.ownsRow B 38 11 v l.length (flatR l)) : Ow w v l B := h
def A.Ow (w : World) (v : Value) (l : List A.AskD) (B : Nat) : Prop := w.ownsRow B 99 4 v l.length (A.flatR l)
theorem A.Ow.sl {w : World} {v : Value} {l : List A.AskD} {B : Nat} (h : A.Ow w v l B) : A.Sl w v l B := A.Sl.of_owns h
theorem A.Ow.grown {w w' : World} {v : Value} {l : List A.AskD} {B : Nat} {row : Option Nat} (h : A.Ow w v l B) (hg : w.grownBy w' row) (hne : v.ownBlock = none ∨ v.ownBlock ≠ row) : A.Ow w' v l B :=
  ⟨h.1, h.2.imp id (fun ⟨g, cap, cur, h1, h2, h3, h4⟩ => ⟨g, cap, cur, h1, h2, by
    have hl : g < w.heap.size := by
      rcases Nat.lt_or_ge g w.heap.size with h' | h'
      · exact h'
      · rw [Array.getElem?_eq_none h'] at h3; cases h3
    have hn : some g ≠ row := by subst h1; simpa [Value.ownBlock] using hne
    rw [hg.block g hl hn]; exact h3, h4⟩)⟩
theorem A.Ow.keep {w w' : World} {v : Value} {l : List A.AskD} {B : Nat} (h : A.Ow w v l B) (hb : Below w.heap.size w w') : A.Ow w' v l B := Go.Proofs.Ytkebokkckmgloaa.owns_below h hb
theorem A.Ow.lt {w : World} {v : Value} {l : List A.AskD} {B : Nat} (h : A.Ow w v l B) : ∀ g, v.ownBlock = some g → B ≤ g ∧ g < w.heap.size := A.Sl.lt (A.Ow.sl h)
theorem A.Ow.shape {w : World} {v : Value} {l : List A.AskD} {B : Nat} (h : A.Ow w v l B) : ∃ a p, v = .slice a l.length p := A.Sl.shape (A.Ow.sl h)
theorem A.Ow.low {w : World} {v : Value} {l : List A.AskD} {B B' : Nat} (h : A.Ow w v l B) (hB : B' ≤ B) : A.Ow w v l B' :=
  ⟨h.1, h.2.imp id (fun ⟨g, cap, cur, h1, h2, h3, h4⟩ => ⟨g, cap, cur, h1, Nat.le_trans hB h2, h3, h4⟩)⟩
theorem A.Ow.nil (w : World) (B : Nat) : A.Ow w (.slice none 0 0) [] B := World.ownsRow_nil _ _ _ _
theorem A.Ow.of_owns {w : World} {v : Value} {l : List A.AskD} {B : Nat} (h : w.ownsRow B 99 4 v l.length (A.flatR l)) : A.Ow w v l B := h
structure OwM (w : World) (m : MateD) (s1 s2 s3 s4 : Value) (B : Nat) : Prop where
  a1 : W.Ow w s1 m.ws B
  a2 : Ow w s2 m.rs B
  a3 : A.Ow w s3 m.qs B
  a4 : A.Ow w s4 m.gs B
  d12 : Dif s1 s2
  d13 : Dif s1 s3
  d14 : Dif s1 s4
  d23 : Dif s2 s3
  d24 : Dif s2 s4
  d34 : Dif s3 s4
theorem OwM.sl {w : World} {m : MateD} {s1 s2 s3 s4 : Value} {B : Nat} (h : OwM w m s1 s2 s3 s4 B) : SlM w m s1 s2 s3 s4 B := ⟨h.a1.sl, h.a2.sl, h.a3.sl, h.a4.sl, h.d12, h.d13, h.d14, h.d23, h.d24, h.d34⟩
theorem OwM.keep {w w' : World} {m : MateD} {s1 s2 s3 s4 : Value} {B : Nat} (h : OwM w m s1 s2 s3 s4 B) (hb : Below w.heap.size w w') : OwM w' m s1 s2 s3 s4 B :=
  ⟨h.a1.keep hb, h.a2.keep hb, h.a3.keep hb, h.a4.keep hb, h.d12, h.d13, h.d14, h.d23, h.d24, h.d34⟩
theorem OwM.ex {w w' : World} {m : MateD} {s1 s2 s3 s4 : Value} {B k : Nat} (h : OwM w m s1 s2 s3 s4 B) (he : Ex k w w') (hk : k < B) : OwM w' m s1 s2 s3 s4 B :=
  ⟨h.a1.grown (W.ex_grown he) (ob_ne (N := k) (fun g hg => Nat.lt_of_lt_of_le hk (h.a1.lt g hg).1) (Nat.le_refl _)), h.a2.grown (ex_grown he) (ob_ne (N := k) (fun g hg => Nat.lt_of_lt_of_le hk (h.a2.lt g hg).1) (Nat.le_refl _)), h.a3.grown (A.ex_grown he) (ob_ne (N := k) (fun g hg => Nat.lt_of_lt_of_le hk (h.a3.lt g hg).1) (Nat.le_refl _)), h.a4.grown (A.ex_grown he) (ob_ne (N := k) (fun g hg => Nat.lt_of_lt_of_le hk (h.a4.lt g hg).1) (Nat.le_refl _)), h.d12, h.d13, h.d14, h.d23, h.d24, h.d34⟩
end Go.Proofs.Ytkebokkckmgloaa
/- A want is looked for. -/
namespace Go.Proofs.Ytkebokkckmgloaa
open Go.RowKit
set_option linter.unusedVariables false

theorem there7w (w : World) (t : TypeId) : (w.alloc (.cells #[.string { data := #[] }, .int .i64 0, .string { data := #[] }, .int .i64 0, .int .i64 0, .int .i64 0, .int .i64 0] t)).there w.heap.size 0 7 :=
  fun j hj => ⟨by simp [go_sem]; omega, by simp [go_sem]⟩
def zeroW : W.WantD := ⟨{ data := #[] }, { data := #[] }, 0, 0, 0, 0, 0⟩

set_option maxRecDepth 4000 in
set_option maxHeartbeats 2000000 in
theorem wantQ (a : Option Addr) (cap : Nat) (ws : List W.WantD) (c : ByteArray) (w : World) (hG : W.Gv w a ws) (hf : ∀ x ∈ ws, x.fits) (hl : ws.length ≤ 1048576) :
    Calls Try.prog 170 #[.slice a ws.length cap, .string c] w fun e w' => ∃ (r : W.WantD) (b : Bool), e = .returned (.tuple #[.agg #[.string r.c, .int .i64 r.v, .string r.h, .int .i64 r.p, .int .i64 r.s, .int .i64 r.d, .int .i64 r.g], .bool b]) ∧ r.fits ∧ Below w.heap.size w w' := by
  have hinfo : (Try.prog.info? 36).map (·.size) = some 7 := by kernel_rfl
  have HF : Hid (∀ x ∈ ws, x.fits) := hf
  have HT : Hid ((w.alloc (.cells #[.string { data := #[] }, .int .i64 0, .string { data := #[] }, .int .i64 0, .int .i64 0, .int .i64 0, .int .i64 0] 36)).there w.heap.size 0 7) := there7w _ _
  have HG : Hid (W.Gv (w.alloc (.cells #[.string { data := #[] }, .int .i64 0, .string { data := #[] }, .int .i64 0, .int .i64 0, .int .i64 0, .int .i64 0] 36)) a ws) := hG.keep (bl_alloc (Below.refl _ _) _)
  clear hf hG
  go_enter Try.func170, Try.ntmps170
  go_wp2_with fail
  go_loopw [6] (fun i wx => ∃ (k : Nat), k ≤ ws.length ∧ i = .int .i64 k ∧ wx = (w.alloc (.cells #[.string { data := #[] }, .int .i64 0, .string { data := #[] }, .int .i64 0, .int .i64 0, .int .i64 0, .int .i64 0] 36))) (fun i _ => ws.length - (intOf i).toNat)
  case atStart => exact ⟨0, Nat.zero_le _, rfl, rfl⟩
  case round =>
    obtain ⟨k, hk, rfl, rfl⟩ := hrel
    by_cases hlt : k < ws.length
    · obtain ⟨b, hab, hb, hR⟩ := HG.out.resolve_left (fun h => by rw [h] at hlt; simp at hlt)
      subst hab
      obtain ⟨r, hr⟩ : ∃ r, ws[k]? = some r := ⟨ws[k], List.getElem?_eq_getElem hlt⟩
      obtain ⟨c0, c1, c2, c3, c4, c5, c6⟩ := hR.at hr
      simp only [Nat.zero_add] at c0 c1 c2 c3 c4 c5 c6
      have Hr : Hid (r.fits) := HF.out r (List.mem_of_getElem? hr)
      clear hr hR
      cases hq : (r.c.toList == c.toList)
      · go_wp2
        exact ⟨⟨k + 1, by omega, by go_num, trivial⟩, by simp [intOf]; omega⟩
      · go_wp2_with (refine wpList_store_mid (by rfl) 36 _ _ (by rfl) w.heap.size 0 #[.string r.c, .int .i64 r.v, .string r.h, .int .i64 r.p, .int .i64 r.s, .int .i64 r.d, .int .i64 r.g] (by rfl) (by rfl) (by exact HT.out) hinfo (by simp [Value.oneCell']) ?_)
        have hrg := World.rangeAt_setCells_same (w.alloc (.cells #[.string { data := #[] }, .int .i64 0, .string { data := #[] }, .int .i64 0, .int .i64 0, .int .i64 0, .int .i64 0] 36)) w.heap.size 0 [.string r.c, .int .i64 r.v, .string r.h, .int .i64 r.p, .int .i64 r.s, .int .i64 r.d, .int .i64 r.g] HT.out
        have d0 := hrg 0 _ rfl
        have d1 := hrg 1 _ rfl
        have d2 := hrg 2 _ rfl
        have d3 := hrg 3 _ rfl
        have d4 := hrg 4 _ rfl
        have d5 := hrg 5 _ rfl
        have d6 := hrg 6 _ rfl
        simp only [Nat.zero_add] at d0 d1 d2 d3 d4 d5 d6
        exact bodyPost_ret (v := .tuple #[.agg #[.string r.c, .int .i64 r.v, .string r.h, .int .i64 r.p, .int .i64 r.s, .int .i64 r.d, .int .i64 r.g], .bool true]) (by simp [results, Try.results170, go_sem, d0, d1, d2, d3, d4, d5, d6]) rfl ⟨r, true, rfl, Hr.out, bl_cells (Nat.le_refl _) _ _ _ (bl_alloc (Below.refl _ _) _)⟩
    · go_wp2_with (refine wpList_store_mid (by rfl) 36 _ _ (by rfl) w.heap.size 0 #[.string { data := #[] }, .int .i64 0, .string { data := #[] }, .int .i64 0, .int .i64 0, .int .i64 0, .int .i64 0] (by rfl) (by rfl) (by exact HT.out) hinfo (by simp [Value.oneCell']) ?_)
      have hrg := World.rangeAt_setCells_same (w.alloc (.cells #[.string { data := #[] }, .int .i64 0, .string { data := #[] }, .int .i64 0, .int .i64 0, .int .i64 0, .int .i64 0] 36)) w.heap.size 0 [.string { data := #[] }, .int .i64 0, .string { data := #[] }, .int .i64 0, .int .i64 0, .int .i64 0, .int .i64 0] HT.out
      have d0 := hrg 0 _ rfl
      have d1 := hrg 1 _ rfl
      have d2 := hrg 2 _ rfl
      have d3 := hrg 3 _ rfl
      have d4 := hrg 4 _ rfl
      have d5 := hrg 5 _ rfl
      have d6 := hrg 6 _ rfl
      simp only [Nat.zero_add] at d0 d1 d2 d3 d4 d5 d6
      exact bodyPost_ret (v := .tuple #[.agg #[.string { data := #[] }, .int .i64 0, .string { data := #[] }, .int .i64 0, .int .i64 0, .int .i64 0, .int .i64 0], .bool false]) (by simp [results, Try.results170, go_sem, d0, d1, d2, d3, d4, d5, d6]) rfl ⟨zeroW, false, rfl, ⟨Nat.zero_le _, Nat.zero_le _⟩, bl_cells (Nat.le_refl _) _ _ _ (bl_alloc (Below.refl _ _) _)⟩
end Go.Proofs.Ytkebokkckmgloaa
