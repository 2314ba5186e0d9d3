import Derived.Test.YtefiiobdlfdbjaaGreatDoorJ17
import Derived.Test.YtefiiobdlfdbjaaGreatDoorJ15
import Derived.Laws.EntriesVeiled
/- A place is put into a book's list. -/
namespace Go.Proofs.YtefiiobdlfdbjaaGreatDoor.Ord
open Go.Maps Go.WideMaps
set_option linter.unusedVariables false
section
variable {α : Type} (key : α → List UInt8)
/-- Put where it belongs in a list that ascends. -/
def insS (r : α) : List α → List α
  | [] => [r]
  | y :: l => if bytesBefore (key y) (key r) then y :: insS r l else if key y = key r then r :: l else r :: y :: l
theorem insL_front (r : α) : ∀ l : List α, (∀ y ∈ l, bytesBefore (key r) (key y) = true) → insL key r l = r :: l
  | [], _ => rfl
  | y :: l, h => by rw [insL, if_pos (h y (List.mem_cons_self ..))]
theorem ins_insS (r : α) : ∀ l : List α, Srt key l → ins key r l = insS key r l
  | [], _ => rfl
  | y :: l, hs => by
    have hl : Srt key l := (List.pairwise_cons.1 hs).2
    have hy : ∀ z ∈ l, bytesBefore (key y) (key z) = true := (List.pairwise_cons.1 hs).1
    have keep : ∀ {m : List α}, (∀ z ∈ m, bytesBefore (key r) (key z) = true) → m.filter (fun z => !(key z == key r)) = m := fun {m} h => List.filter_eq_self.2 (fun z hz => by
      have := before_ne (h z hz)
      simp only [Bool.not_eq_true', beq_eq_false_iff_ne]
      exact fun e => this e.symm)
    rw [insS]
    by_cases h1 : bytesBefore (key y) (key r) = true
    · rw [if_pos h1]
      unfold ins
      rw [List.filter_cons, if_pos (by simp [before_ne h1]), insL, if_neg (by rw [before_asymm h1]; simp)]
      congr 1
      exact ins_insS r l hl
    · rw [if_neg h1]
      by_cases h2 : key y = key r
      · rw [if_pos h2]
        have h3 : ∀ z ∈ l, bytesBefore (key r) (key z) = true := fun z hz => by rw [← h2]; exact hy z hz
        unfold ins
        rw [List.filter_cons, if_neg (by simp [h2]), keep h3, insL_front key r l h3]
      · rw [if_neg h2]
        have h4 : bytesBefore (key r) (key y) = true := by
          rcases WideAt.bytes_total _ _ h2 with h | h
          · exact absurd h h1
          · exact h
        have h3 : ∀ z ∈ y :: l, bytesBefore (key r) (key z) = true := fun z hz => by
          rcases List.mem_cons.1 hz with rfl | hz
          · exact h4
          · exact WideShapes.bytes_trans _ _ _ h4 (hy z hz)
        unfold ins
        rw [keep h3, insL_front key r _ h3]
theorem insS_mem (r : α) : ∀ (l : List α) (q : α), q ∈ insS key r l → q = r ∨ q ∈ l
  | [], q, h => by simp [insS] at h; exact Or.inl h
  | y :: l, q, h => by
    rw [insS] at h
    split at h
    · rcases List.mem_cons.1 h with rfl | h
      · exact Or.inr (List.mem_cons_self ..)
      · rcases insS_mem r l q h with h | h
        · exact Or.inl h
        · exact Or.inr (List.mem_cons_of_mem _ h)
    · split at h
      · rcases List.mem_cons.1 h with rfl | h
        · exact Or.inl rfl
        · exact Or.inr (List.mem_cons_of_mem _ h)
      · rcases List.mem_cons.1 h with rfl | h
        · exact Or.inl rfl
        · exact Or.inr h
theorem insS_srt (r : α) : ∀ l : List α, Srt key l → Srt key (insS key r l)
  | [], _ => List.pairwise_singleton ..
  | y :: l, hs => by
    have hl : Srt key l := (List.pairwise_cons.1 hs).2
    have hy : ∀ z ∈ l, bytesBefore (key y) (key z) = true := (List.pairwise_cons.1 hs).1
    rw [insS]
    by_cases h1 : bytesBefore (key y) (key r) = true
    · rw [if_pos h1]
      refine List.pairwise_cons.2 ⟨fun z hz => ?_, insS_srt r l hl⟩
      rcases insS_mem key r l z hz with rfl | h
      · exact h1
      · exact hy z h
    · rw [if_neg h1]
      by_cases h2 : key y = key r
      · rw [if_pos h2]
        exact List.pairwise_cons.2 ⟨fun z hz => by rw [← h2]; exact hy z hz, hl⟩
      · rw [if_neg h2]
        have h4 : bytesBefore (key r) (key y) = true := by
          rcases WideAt.bytes_total _ _ h2 with h | h
          · exact absurd h h1
          · exact h
        refine List.pairwise_cons.2 ⟨fun z hz => ?_, hs⟩
        rcases List.mem_cons.1 hz with rfl | hz
        · exact h4
        · exact WideShapes.bytes_trans _ _ _ h4 (hy z hz)
theorem insS_len (r : α) : ∀ l : List α, (insS key r l).length ≤ l.length + 1
  | [] => by simp [insS]
  | y :: l => by
    have := insS_len r l
    rw [insS]
    split
    · simp; omega
    · split <;> simp
/-- Where it goes: behind those with lesser names; one with the same name goes out. -/
theorem insS_cut (r : α) : ∀ (l : List α) (k : Nat), k ≤ l.length → (∀ (j : Nat) y, j < k → l[j]? = some y → bytesBefore (key y) (key r) = true) → (∀ y, l[k]? = some y → bytesBefore (key y) (key r) = false) →
    insS key r l = l.take k ++ r :: (match l[k]? with | some y => if key y = key r then l.drop (k + 1) else l.drop k | none => [])
  | [], k, hk, _, _ => by simp at hk; subst hk; rfl
  | y :: l, 0, _, _, h => by
    have h1 := h y rfl
    rw [insS, if_neg (by rw [h1]; simp)]
    simp only [List.take_zero, List.nil_append, List.getElem?_cons_zero, List.drop_zero, List.drop_succ_cons]
    split <;> rfl
  | y :: l, k + 1, hk, hlt, hge => by
    have h1 := hlt 0 y (by omega) rfl
    rw [insS, if_pos h1]
    have ih := insS_cut r l k (by simpa using hk) (fun j z hj hz => hlt (j + 1) z (by omega) (by simpa using hz)) (fun z hz => hge z (by simpa using hz))
    rw [ih]
    simp
end
theorem insS_map {α β : Type} (ka : α → List UInt8) (kb : β → List UInt8) (f : α → β) (hf : ∀ a, kb (f a) = ka a) (r : α) : ∀ l : List α, insS kb (f r) (l.map f) = (insS ka r l).map f
  | [] => rfl
  | y :: l => by
    rw [List.map_cons, insS, insS, hf, hf]
    have ih := insS_map ka kb f hf r l
    by_cases h1 : bytesBefore (ka y) (ka r) = true
    · rw [if_pos h1, if_pos h1, ih]; rfl
    · rw [if_neg h1, if_neg h1]
      by_cases h2 : ka y = ka r
      · rw [if_pos h2, if_pos h2]; rfl
      · rw [if_neg h2, if_neg h2]; rfl
end Go.Proofs.YtefiiobdlfdbjaaGreatDoor.Ord
namespace Go.Proofs.YtefiiobdlfdbjaaGreatDoor
open Go.RowKit Go.Maps Go.WideMaps
set_option linter.unusedVariables false
def keyP (p : P.PlaceD) : List UInt8 := p.b.data.toList
/-- The version that a berth's place has, 0 where there is none. -/
def seenOf (b : ByteArray) : List P.PlaceD → Int
  | [] => 0
  | p :: ps => if p.b = b then p.s else seenOf b ps
/-- A place is put. -/
def putP (b : ByteArray) (a : Option Addr) (c : Nat) (ws : List W.WantD) (ps : List P.PlaceD) : List P.PlaceD := Ord.insS keyP ⟨b, seenOf b ps + 1, a, c, ws⟩ ps
theorem srtP {ps : List P.PlaceD} (h : P.AscN ps ps.length) : Ord.Srt keyP ps :=
  Ord.srt_of keyP ps (fun j q r hq hr => by
    have h1 := h j q r (by have := (List.getElem?_eq_some_iff.1 hr).1; omega) hq hr
    rw [Ord.less_before, ByteArray.toList_eq, ByteArray.toList_eq] at h1
    exact h1)
theorem srtP_raw {ps : List P.PlaceD} (h : Ord.Srt keyP ps) : Pr.Srt (ps.map Pr.raw) := by
  show List.Pairwise _ _
  rw [List.pairwise_map]
  exact h
theorem ins_raw {ps : List P.PlaceD} (hs : Ord.Srt keyP ps) (np : P.PlaceD) : Ord.ins Pr.keyV (Pr.raw np) (ps.map Pr.raw) = (Ord.insS keyP np ps).map Pr.raw := by
  rw [Ord.ins_insS Pr.keyV _ _ (srtP_raw hs)]
  exact Ord.insS_map keyP Pr.keyV Pr.raw (fun _ => rfl) np ps
theorem seen_of_mem {b : ByteArray} {ps : List P.PlaceD} (hs : Ord.Srt keyP ps) {p : P.PlaceD} (hp : p ∈ ps) (hb : p.b = b) : seenOf b ps = p.s := by
  induction ps with
  | nil => cases hp
  | cons q ps ih =>
    rw [seenOf]
    rcases List.mem_cons.1 hp with rfl | h
    · rw [if_pos hb]
    · have h1 : bytesBefore (keyP q) (keyP p) = true := (List.pairwise_cons.1 hs).1 p h
      have h2 : q.b ≠ b := fun e => Ord.before_ne h1 (by unfold keyP; rw [e, hb])
      rw [if_neg h2]
      exact ih (List.pairwise_cons.1 hs).2 h
theorem seen_none {b : ByteArray} : ∀ {ps : List P.PlaceD}, (∀ p ∈ ps, p.b ≠ b) → seenOf b ps = 0
  | [], _ => rfl
  | p :: ps, h => by
    rw [seenOf, if_neg (h p (List.mem_cons_self ..))]
    exact seen_none (fun q hq => h q (List.mem_cons_of_mem _ hq))
theorem seen_like {b : ByteArray} : ∀ {ps qs : List P.PlaceD}, P.Like ps qs → seenOf b ps = seenOf b qs
  | [], [], _ => rfl
  | [], q :: qs, h => by have := P.Like.len h; simp at this
  | p :: ps, [], h => by have := P.Like.len h; simp at this
  | p :: ps, q :: qs, h => by
    have h0 := P.Like.at h (k := 0) rfl rfl
    have ht : P.Like ps qs := by
      unfold P.Like at h ⊢
      simpa using (List.cons.inj h).2
    rw [seenOf, seenOf, h0.1, h0.2.1, seen_like ht]
theorem insS_like {np nq : P.PlaceD} (hn : np.says = nq.says) : ∀ {ps qs : List P.PlaceD}, P.Like ps qs → P.Like (Ord.insS keyP np ps) (Ord.insS keyP nq qs)
  | [], [], _ => by show [np.says] = [nq.says]; rw [hn]
  | [], q :: qs, h => by have := P.Like.len h; simp at this
  | p :: ps, [], h => by have := P.Like.len h; simp at this
  | p :: ps, q :: qs, h => by
    have h0 := P.Like.at h (k := 0) rfl rfl
    have hs : p.says = q.says := (List.cons.inj h).1
    have ht : P.Like ps qs := (List.cons.inj h).2
    have hk : keyP p = keyP q := by unfold keyP; rw [h0.1]
    have hr : keyP np = keyP nq := by
      unfold keyP
      rw [show np.b = nq.b from congrArg (·.1) hn]
    have ih := insS_like hn ht
    rw [Ord.insS, Ord.insS, hk, hr]
    unfold P.Like at ih ht ⊢
    by_cases h1 : bytesBefore (keyP q) (keyP nq) = true
    · rw [if_pos h1, if_pos h1, List.map_cons, List.map_cons, hs, ih]
    · rw [if_neg h1, if_neg h1]
      by_cases h2 : keyP q = keyP nq
      · rw [if_pos h2, if_pos h2, List.map_cons, List.map_cons, hn, ht]
      · rw [if_neg h2, if_neg h2, List.map_cons, List.map_cons, List.map_cons, List.map_cons, hn, hs, ht]
theorem putP_like {b : ByteArray} {a a' : Option Addr} {c c' : Nat} {ws : List W.WantD} {ps qs : List P.PlaceD} (h : P.Like ps qs) : P.Like (putP b a c ws ps) (putP b a' c' ws qs) :=
  insS_like (by show (_, _, _) = (_, _, _); rw [seen_like h]) h
/-- What a put must answer. -/
def PutSay (t : Int) (gs : List G.GrantD) (ps : List P.PlaceD) (b : ByteArray) (ws : List W.WantD) (t' : Int) (gs' : List G.GrantD) (qs : List P.PlaceD) (code : Int) : Prop :=
  (¬ P.LandSay t gs ps ∧ t' = 0 ∧ gs' = [] ∧ qs = [] ∧ code = 1) ∨ (P.LandSay t gs ps ∧ t' = t ∧ gs' = gs ∧
    ((¬ (nameB b = true ∧ (ws.length ≤ 10 ∧ W.AllW ws ws.length)) ∧ P.Like qs ps ∧ code = 2) ∨
     ((nameB b = true ∧ (ws.length ≤ 10 ∧ W.AllW ws ws.length)) ∧ ¬ P.LandSay t gs (putP b none 0 ws ps) ∧ P.Like qs ps ∧ code = 3) ∨
     ((nameB b = true ∧ (ws.length ≤ 10 ∧ W.AllW ws ws.length)) ∧ P.LandSay t gs (putP b none 0 ws ps) ∧ P.Like qs (putP b none 0 ws ps) ∧ code = 0)))
theorem put_one {t : Int} {gs : List G.GrantD} {ps ps' : List P.PlaceD} {b : ByteArray} {ws : List W.WantD} {t1 t2 : Int} {g1 g2 : List G.GrantD} {q1 q2 : List P.PlaceD} {c1 c2 : Int} (hl : P.Like ps ps') (h1 : PutSay t gs ps b ws t1 g1 q1 c1) (h2 : PutSay t gs ps' b ws t2 g2 q2 c2) : t1 = t2 ∧ g1 = g2 ∧ P.Like q1 q2 ∧ c1 = c2 := by
  have hp : P.Like (putP b none 0 ws ps) (putP b none 0 ws ps') := putP_like hl
  rcases h1 with ⟨n1, rfl, rfl, rfl, rfl⟩ | ⟨y1, rfl, rfl, z1⟩
  · rcases h2 with ⟨n2, rfl, rfl, rfl, rfl⟩ | ⟨y2, -⟩
    · exact ⟨rfl, rfl, rfl, rfl⟩
    · exact (n1 ((P.like_says hl).2 y2)).elim
  · rcases h2 with ⟨n2, -⟩ | ⟨y2, rfl, rfl, z2⟩
    · exact (n2 ((P.like_says hl).1 y1)).elim
    · refine ⟨rfl, rfl, ?_⟩
      rcases z1 with ⟨a1, k1, rfl⟩ | ⟨a1, l1, k1, rfl⟩ | ⟨a1, l1, k1, rfl⟩ <;> rcases z2 with ⟨a2, k2, rfl⟩ | ⟨a2, l2, k2, rfl⟩ | ⟨a2, l2, k2, rfl⟩
      · exact ⟨(k1.trans hl).trans k2.symm, rfl⟩
      · exact (a1 a2).elim
      · exact (a1 a2).elim
      · exact (a2 a1).elim
      · exact ⟨(k1.trans hl).trans k2.symm, rfl⟩
      · exact (l1 ((P.like_says hp).2 l2)).elim
      · exact (a2 a1).elim
      · exact (l2 ((P.like_says hp).1 l1)).elim
      · exact ⟨(k1.trans hp).trans k2.symm, rfl⟩
end Go.Proofs.YtefiiobdlfdbjaaGreatDoor
/- MateLandOk: the program's side. -/
namespace Go.Proofs.YtefiiobdlfdbjaaGreatDoor.P
open Go.RowKit
set_option linter.unusedVariables false

theorem build_land (w : World) : Sem.run Tryz.prog (Instr.buildSlice 97 4 #[(0, .func (.func 55) #[] #[]), (1, .func (.func 56) #[] #[]), (2, .func (.func 57) #[] #[]), (3, .func (.func 58) #[] #[])]) w = .ok (.slice (some ⟨w.heap.size, 0, none⟩) 4 4) (w.alloc (.cells #[.func (.func 55) #[] #[], .func (.func 56) #[] #[], .func (.func 57) #[] #[], .func (.func 58) #[] #[]] 48)) := by kernel_rfl
theorem saysL_no {t : Int} {gs : List G.GrantD} {ps : List PlaceD} (h : LandSay t gs ps → False) : SaysL false t gs ps := ⟨fun h' => (by cases h'), fun h' => (h h').elim⟩
theorem three_land {w w' : World} {t : Int} {gs : List G.GrantD} {ps : List PlaceD} {b1 b2 : Nat} (hb : Below ((((w.alloc (.cells #[.int .i64 t, .slice (some ⟨b1, 0, none⟩) gs.length gs.length, .slice (some ⟨b2, 0, none⟩) ps.length ps.length] 32))).alloc (.cells #[.func (.func 55) #[] #[], .func (.func 56) #[] #[], .func (.func 57) #[] #[], .func (.func 58) #[] #[]] 48)).alloc (.cells #[.int .i64 t, .slice (some ⟨b1, 0, none⟩) gs.length gs.length, .slice (some ⟨b2, 0, none⟩) ps.length ps.length] 32)).heap.size ((((w.alloc (.cells #[.int .i64 t, .slice (some ⟨b1, 0, none⟩) gs.length gs.length, .slice (some ⟨b2, 0, none⟩) ps.length ps.length] 32))).alloc (.cells #[.func (.func 55) #[] #[], .func (.func 56) #[] #[], .func (.func 57) #[] #[], .func (.func 58) #[] #[]] 48)).alloc (.cells #[.int .i64 t, .slice (some ⟨b1, 0, none⟩) gs.length gs.length, .slice (some ⟨b2, 0, none⟩) ps.length ps.length] 32)) w') :
    (∀ k, w'.cell? ⟨w.heap.size + 1, k, none⟩ = (#[.func (.func 55) #[] #[], .func (.func 56) #[] #[], .func (.func 57) #[] #[], .func (.func 58) #[] #[]] : Array Value)[k]?) ∧ (∀ k, w'.cell? ⟨w.heap.size + 1 + 1, k, none⟩ = (#[.int .i64 t, .slice (some ⟨b1, 0, none⟩) gs.length gs.length, .slice (some ⟨b2, 0, none⟩) ps.length ps.length] : Array Value)[k]?) := by
  constructor
  · intro k
    rw [hb.cell (p := ⟨w.heap.size + 1, k, none⟩) (by simp)]
    simp [go_sem, World.cell?_alloc_past]
  · intro k
    rw [hb.cell (p := ⟨w.heap.size + 1 + 1, k, none⟩) (by simp)]
    simp [go_sem]

set_option maxRecDepth 4000 in
set_option maxHeartbeats 2000000 in
theorem implLandOk (t : Int) (gs : List G.GrantD) (ps : List PlaceD) (b1 b2 : Nat) (w : World) (hA : LandAt w gs ps b1 b2) (hF : Fit gs ps) :
    Calls Tryz.prog 45 #[.agg #[.int .i64 t, .slice (some ⟨b1, 0, none⟩) gs.length gs.length, .slice (some ⟨b2, 0, none⟩) ps.length ps.length]] w fun e w' => (∃ q : Bool, e = .returned (.bool q) ∧ SaysL q t gs ps) ∧ Below w.heap.size w w' := by
  have Hx0 : Hid (Below w.heap.size w ((((w.alloc (.cells #[.int .i64 t, .slice (some ⟨b1, 0, none⟩) gs.length gs.length, .slice (some ⟨b2, 0, none⟩) ps.length ps.length] 32))).alloc (.cells #[.func (.func 55) #[] #[], .func (.func 56) #[] #[], .func (.func 57) #[] #[], .func (.func 58) #[] #[]] 48)).alloc (.cells #[.int .i64 t, .slice (some ⟨b1, 0, none⟩) gs.length gs.length, .slice (some ⟨b2, 0, none⟩) ps.length ps.length] 32))) := bl_alloc (bl_alloc (bl_alloc (Below.refl _ _) _) _) _
  have HA0 : Hid (LandAt ((((w.alloc (.cells #[.int .i64 t, .slice (some ⟨b1, 0, none⟩) gs.length gs.length, .slice (some ⟨b2, 0, none⟩) ps.length ps.length] 32))).alloc (.cells #[.func (.func 55) #[] #[], .func (.func 56) #[] #[], .func (.func 57) #[] #[], .func (.func 58) #[] #[]] 48)).alloc (.cells #[.int .i64 t, .slice (some ⟨b1, 0, none⟩) gs.length gs.length, .slice (some ⟨b2, 0, none⟩) ps.length ps.length] 32)) gs ps b1 b2) := hA.keep Hx0.out
  have HF : Hid (Fit gs ps) := hF
  clear hA hF
  have hbv := build_land
  go_enter Tryz.func45, Tryz.ntmps45
  go_wp2_with go_in
  clear hbv
  refine wp_loop_rounds 5 ?_
  rw [rounds_succ]
  go_wp2_with fail
  refine (timeOk_any t _ _ _ _ _ _ _).mono ?_
  rintro e w1 ⟨rfl, c1⟩
  obtain ⟨q1, hq1⟩ : ∃ q, q = timeB t := ⟨_, rfl⟩
  have H1 : Hid (q1 = true ↔ timeB t = true) := by rw [hq1]; exact Iff.rfl
  rw [← hq1]
  have C1 : Hid (Below ((((w.alloc (.cells #[.int .i64 t, .slice (some ⟨b1, 0, none⟩) gs.length gs.length, .slice (some ⟨b2, 0, none⟩) ps.length ps.length] 32))).alloc (.cells #[.func (.func 55) #[] #[], .func (.func 56) #[] #[], .func (.func 57) #[] #[], .func (.func 58) #[] #[]] 48)).alloc (.cells #[.int .i64 t, .slice (some ⟨b1, 0, none⟩) gs.length gs.length, .slice (some ⟨b2, 0, none⟩) ps.length ps.length] 32)).heap.size ((((w.alloc (.cells #[.int .i64 t, .slice (some ⟨b1, 0, none⟩) gs.length gs.length, .slice (some ⟨b2, 0, none⟩) ps.length ps.length] 32))).alloc (.cells #[.func (.func 55) #[] #[], .func (.func 56) #[] #[], .func (.func 57) #[] #[], .func (.func 58) #[] #[]] 48)).alloc (.cells #[.int .i64 t, .slice (some ⟨b1, 0, none⟩) gs.length gs.length, .slice (some ⟨b2, 0, none⟩) ps.length ps.length] 32)) w1) := c1
  clear hq1 c1
  obtain ⟨kf1, km1⟩ := three_land C1.out
  cases q1
  · go_wp2
    go_ret
    exact ⟨⟨false, rfl, saysL_no (fun h => by have := H1.out.2 h.1; cases this)⟩, bl_trans Hx0.out C1.out⟩
  have G1 : Hid (timeB t = true) := H1.out.1 rfl
  clear H1
  have ht0 : 0 ≤ t := by have := G1.out; simp [timeB, inB] at this; omega
  have ht1 : t ≤ 2000000 := by have := G1.out; simp [timeB, inB] at this; omega
  have HA1 : Hid (LandAt w1 gs ps b1 b2) := HA0.out.keep C1.out
  go_wp2_with fail
  rw [rounds_succ]
  go_wp2_with fail
  refine (grantsOk_any t gs ps b1 b2 _ HA1.out HF.out ht0 ht1).mono ?_
  rintro e w2 ⟨⟨q2, rfl, h2⟩, c2⟩
  have H2 : Hid (q2 = true ↔ GrantsSay t gs) := h2
  have C2 : Hid (Below ((((w.alloc (.cells #[.int .i64 t, .slice (some ⟨b1, 0, none⟩) gs.length gs.length, .slice (some ⟨b2, 0, none⟩) ps.length ps.length] 32))).alloc (.cells #[.func (.func 55) #[] #[], .func (.func 56) #[] #[], .func (.func 57) #[] #[], .func (.func 58) #[] #[]] 48)).alloc (.cells #[.int .i64 t, .slice (some ⟨b1, 0, none⟩) gs.length gs.length, .slice (some ⟨b2, 0, none⟩) ps.length ps.length] 32)).heap.size ((((w.alloc (.cells #[.int .i64 t, .slice (some ⟨b1, 0, none⟩) gs.length gs.length, .slice (some ⟨b2, 0, none⟩) ps.length ps.length] 32))).alloc (.cells #[.func (.func 55) #[] #[], .func (.func 56) #[] #[], .func (.func 57) #[] #[], .func (.func 58) #[] #[]] 48)).alloc (.cells #[.int .i64 t, .slice (some ⟨b1, 0, none⟩) gs.length gs.length, .slice (some ⟨b2, 0, none⟩) ps.length ps.length] 32)) w2) := bl_trans C1.out c2
  clear h2 c2 kf1 km1
  obtain ⟨kf2, km2⟩ := three_land C2.out
  cases q2
  · go_wp2
    go_ret
    exact ⟨⟨false, rfl, saysL_no (fun h => by have := H2.out.2 h.2.1; cases this)⟩, bl_trans Hx0.out C2.out⟩
  have G2 : Hid (GrantsSay t gs) := H2.out.1 rfl
  clear H2
  have HA2 : Hid (LandAt w2 gs ps b1 b2) := HA0.out.keep C2.out
  go_wp2_with fail
  rw [rounds_succ]
  go_wp2_with fail
  refine (placesOk_any t gs ps b1 b2 _ HA2.out HF.out).mono ?_
  rintro e w3 ⟨⟨q3, rfl, h3⟩, c3⟩
  have H3 : Hid (q3 = true ↔ PlacesSay ps) := h3
  have C3 : Hid (Below ((((w.alloc (.cells #[.int .i64 t, .slice (some ⟨b1, 0, none⟩) gs.length gs.length, .slice (some ⟨b2, 0, none⟩) ps.length ps.length] 32))).alloc (.cells #[.func (.func 55) #[] #[], .func (.func 56) #[] #[], .func (.func 57) #[] #[], .func (.func 58) #[] #[]] 48)).alloc (.cells #[.int .i64 t, .slice (some ⟨b1, 0, none⟩) gs.length gs.length, .slice (some ⟨b2, 0, none⟩) ps.length ps.length] 32)).heap.size ((((w.alloc (.cells #[.int .i64 t, .slice (some ⟨b1, 0, none⟩) gs.length gs.length, .slice (some ⟨b2, 0, none⟩) ps.length ps.length] 32))).alloc (.cells #[.func (.func 55) #[] #[], .func (.func 56) #[] #[], .func (.func 57) #[] #[], .func (.func 58) #[] #[]] 48)).alloc (.cells #[.int .i64 t, .slice (some ⟨b1, 0, none⟩) gs.length gs.length, .slice (some ⟨b2, 0, none⟩) ps.length ps.length] 32)) w3) := bl_trans C2.out c3
  clear h3 c3 kf2 km2
  obtain ⟨kf3, km3⟩ := three_land C3.out
  cases q3
  · go_wp2
    go_ret
    exact ⟨⟨false, rfl, saysL_no (fun h => by have := H3.out.2 h.2.2.1; cases this)⟩, bl_trans Hx0.out C3.out⟩
  have G3 : Hid (PlacesSay ps) := H3.out.1 rfl
  clear H3
  have HA3 : Hid (LandAt w3 gs ps b1 b2) := HA0.out.keep C3.out
  go_wp2_with fail
  rw [rounds_succ]
  go_wp2_with fail
  refine (holdApart_any t gs ps b1 b2 _ HA3.out HF.out G3.out.1 (fun p hp => (G3.out.2.2 p hp).2.2.1)).mono ?_
  rintro e w4 ⟨⟨q4, rfl, h4⟩, c4⟩
  have H4 : Hid (q4 = true ↔ Apart ps) := h4.trans (apart_iff ps G3.out.2.2)
  have C4 : Hid (Below ((((w.alloc (.cells #[.int .i64 t, .slice (some ⟨b1, 0, none⟩) gs.length gs.length, .slice (some ⟨b2, 0, none⟩) ps.length ps.length] 32))).alloc (.cells #[.func (.func 55) #[] #[], .func (.func 56) #[] #[], .func (.func 57) #[] #[], .func (.func 58) #[] #[]] 48)).alloc (.cells #[.int .i64 t, .slice (some ⟨b1, 0, none⟩) gs.length gs.length, .slice (some ⟨b2, 0, none⟩) ps.length ps.length] 32)).heap.size ((((w.alloc (.cells #[.int .i64 t, .slice (some ⟨b1, 0, none⟩) gs.length gs.length, .slice (some ⟨b2, 0, none⟩) ps.length ps.length] 32))).alloc (.cells #[.func (.func 55) #[] #[], .func (.func 56) #[] #[], .func (.func 57) #[] #[], .func (.func 58) #[] #[]] 48)).alloc (.cells #[.int .i64 t, .slice (some ⟨b1, 0, none⟩) gs.length gs.length, .slice (some ⟨b2, 0, none⟩) ps.length ps.length] 32)) w4) := bl_trans C3.out c4
  clear h4 c4 kf3 km3
  obtain ⟨kf4, km4⟩ := three_land C4.out
  cases q4
  · go_wp2
    go_ret
    exact ⟨⟨false, rfl, saysL_no (fun h => by have := H4.out.2 h.2.2.2; cases this)⟩, bl_trans Hx0.out C4.out⟩
  have G4 : Hid (Apart ps) := H4.out.1 rfl
  clear H4
  have HA4 : Hid (LandAt w4 gs ps b1 b2) := HA0.out.keep C4.out
  go_wp2_with fail
  rw [rounds_succ]
  go_wp2
  go_ret
  exact ⟨⟨true, rfl, ⟨fun _ => ⟨G1.out, G2.out, G3.out, G4.out⟩, fun _ => rfl⟩⟩, bl_trans Hx0.out C4.out⟩
end Go.Proofs.YtefiiobdlfdbjaaGreatDoor.P
