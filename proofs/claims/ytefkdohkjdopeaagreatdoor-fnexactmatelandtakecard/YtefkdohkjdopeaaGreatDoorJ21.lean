import Derived.Test.YtefkdohkjdopeaaGreatDoorJ20
import Derived.Maps.RangeWalk
import Derived.Test.YtefkdohkjdopeaaGreatDoorJ11
import Derived.Test.YtefkdohkjdopeaaGreatDoorJ09
import Derived.Deep.DeepCutAuto
import Derived.Deep.CutBlock
namespace Go.Proofs.YtefkdohkjdopeaaGreatDoor
open Go.RowKit Go.Maps Go.WideMaps
set_option linter.unusedVariables false
theorem keyOf_string_inv {key : Value} {kl : Lit} (h : keyOf Tryz.prog 9 key = some kl) : ∃ s : ByteArray, key = .string s ∧ kl = .string s.data.toList := by
 have hk : Tryz.prog.underlying 9 = some .string := Tryz.underlying9
 cases key <;> simp [keyOf, hk, mapKey] at h
 obtain ⟨-, rfl⟩ := h
 exact ⟨_, rfl, rfl⟩
namespace G
def valG (r : GrantD) : Value := .agg #[.string r.h, .string r.b, .string r.c, .int .i64 r.t, .int .i64 r.u]
theorem RV_shape {v : Value} {y : DataW GrantD × List MemPlace} (h : RV v = some y) : ∃ r : GrantD, v = valG r ∧ y.1 = .held r := by
 unfold RV at h
 split at h
 ·
  rename_i xs
  obtain ⟨l⟩ := xs
  simp only at h
  unfold RVL at h
  split at h
  ·
   have h2 := (Option.some.inj h).symm
   subst h2
   exact ⟨_, rfl, rfl⟩
  ·
   cases h
 ·
  cases h
end G
def sweptG (t : Int) (left : Lit → Bool) (gs : List G.GrantD) : List G.GrantD := gs.filter (fun g => !overG t g || left (Lit.string (G.keyV g)))
theorem swept_start (t : Int) (gs : List G.GrantD) : sweptG t (has (G.dec gs)) gs = gs := by
 unfold sweptG
 rw [List.filter_eq_self]
 intro g hg
 have h : has (G.dec gs) (Lit.string (G.keyV g)) = true := by
  rw [show G.dec gs = Ord.dec G.keyV gs from rfl, Ord.dec_has, List.any_eq_true]
  exact ⟨g, hg, by simp⟩
 rw [h, Bool.or_true]
theorem swept_end {t : Int} {left : Lit → Bool} {gs : List G.GrantD} (h : ∀ kl, left kl = false) : sweptG t left gs = stillG t gs := by
 unfold sweptG stillG
 refine List.filter_congr fun g _ => ?_
 rw [h, Bool.or_false]
theorem swept_srt {t : Int} {left : Lit → Bool} {gs : List G.GrantD} (hs : G.Srt gs) : G.Srt (sweptG t left gs) := List.Pairwise.filter _ hs
theorem still_srt {t : Int} {gs : List G.GrantD} (hs : G.Srt gs) : G.Srt (stillG t gs) := List.Pairwise.filter _ hs
theorem keyV_inj {g r : G.GrantD} (h : G.keyV g = G.keyV r) : g.h = r.h := Ord.ba_ext h
theorem swept_came {t : Int} {left : Lit → Bool} {gs : List G.GrantD} (hs : G.Srt gs) {s : ByteArray} {r : G.GrantD} (hat : ∀ zd, (G.dec (sweptG t left gs)).atKey (Lit.string s.data.toList) zd = .held r) : r ∈ gs ∧ r.h = s := by
 cases ha : (sweptG t left gs).any (fun y => G.keyV y == s.data.toList)
 ·
  have h1 := Ord.dec_none G.keyV ha (.nil)
  have h2 := hat .nil
  rw [show G.dec (sweptG t left gs) = Ord.dec G.keyV (sweptG t left gs) from rfl, h1] at h2
  cases h2
 ·
  obtain ⟨y, hy, hk⟩ := List.any_eq_true.1 ha
  have hk' : G.keyV y = s.data.toList := by simpa using hk
  have h1 := Ord.dec_at G.keyV (swept_srt (t := t) (left := left) hs) hy .nil
  have h2 := hat .nil
  rw [← hk'] at h2
  rw [show G.dec (sweptG t left gs) = Ord.dec G.keyV (sweptG t left gs) from rfl, h1] at h2
  injection h2 with h2
  subst h2
  exact ⟨(List.mem_filter.1 hy).1, Ord.ba_ext hk'⟩
theorem same_str (a b : List UInt8) : (Lit.string a).sameKey (Lit.string b) = (a == b) := rfl
theorem swept_struck {t : Int} {left : Lit → Bool} {gs : List G.GrantD} (hs : G.Srt gs) {r : G.GrantD} (hr : r ∈ gs) (ho : overG t r = true) :
  (G.dec (sweptG t left gs)).del (Lit.string (G.keyV r)) = G.dec (sweptG t (fun z => left z && !z.sameKey (Lit.string (G.keyV r))) gs) := by
 rw [show G.dec (sweptG t left gs) = Ord.dec G.keyV (sweptG t left gs) from rfl, Ord.dec_del]
 show Ord.dec G.keyV _ = Ord.dec G.keyV _
 congr 1
 unfold Ord.out sweptG
 rw [List.filter_filter]
 refine List.filter_congr fun g hg => ?_
 simp only [same_str]
 cases hk : (G.keyV g == G.keyV r)
 ·
  simp
 ·
  have e := srtG_one hs hr hg (keyV_inj (by simpa using hk))
  subst e
  rw [ho]
  simp
theorem swept_stays {t : Int} {left : Lit → Bool} {gs : List G.GrantD} (hs : G.Srt gs) {r : G.GrantD} (hr : r ∈ gs) (ho : overG t r = false) :
  sweptG t left gs = sweptG t (fun z => left z && !z.sameKey (Lit.string (G.keyV r))) gs := by
 unfold sweptG
 refine List.filter_congr fun g hg => ?_
 simp only [same_str]
 cases hk : (G.keyV g == G.keyV r)
 ·
  simp
 ·
  have e := srtG_one hs hr hg (keyV_inj (by simpa using hk))
  subst e
  rw [ho]
  rfl
theorem below_grown {w w' : World} (hb : Below w.heap.size w w') (row : Option Nat) : w.grownBy w' row := ⟨hb.os, hb.tape, hb.output, hb.size, fun i hi _ => hb.block i hi⟩
theorem grown_cell {w w' : World} {m b j : Nat} {v : Value} (hg : w.grownBy w' (some m)) (hb : b < w.heap.size) (hne : b ≠ m) (h : w.cell? ⟨b, j, none⟩ = some v) : w'.cell? ⟨b, j, none⟩ = some v :=
 (World.cell?_of_block (w := w) (a := ⟨b, j, none⟩) (hg.block b hb (fun e => hne (Option.some.inj e)))).trans h
set_option maxRecDepth 4000 in
theorem room1_any (xb d : Nat) (t : Int) (s : ByteArray) (g : G.GrantD) (w : World) (hx : w.cell? ⟨xb, 0, none⟩ = some (.pointer (some ⟨d, 0, none⟩))) (hd : w.cell? ⟨d, 0, none⟩ = some (.int .i64 t)) (hxl : xb < w.heap.size) (hdl : d < w.heap.size) :
  Calls Tryz.prog 97 #[.string s, .agg #[.string g.h, .string g.b, .string g.c, .int .i64 g.t, .int .i64 g.u], .pointer (some ⟨xb, 0, none⟩)] w fun e w' => e = .returned (.bool (overG t g)) ∧ Below w.heap.size w w' := by
 have hb : Below w.heap.size w (w.alloc (.cells #[.string g.h, .string g.b, .string g.c, .int .i64 g.t, .int .i64 g.u] 61)) := bl_alloc (Below.refl _ _) _
 have hx' : (w.alloc (.cells #[.string g.h, .string g.b, .string g.c, .int .i64 g.t, .int .i64 g.u] 61)).cell? ⟨xb, 0, none⟩ = some (.pointer (some ⟨d, 0, none⟩)) := (hb.cell (p := ⟨xb, 0, none⟩) hxl).trans hx
 have HO : Hid (Calls Tryz.prog 94 #[.pointer (some ⟨d, 0, none⟩), .agg #[.string g.h, .string g.b, .string g.c, .int .i64 g.t, .int .i64 g.u]] (w.alloc (.cells #[.string g.h, .string g.b, .string g.c, .int .i64 g.t, .int .i64 g.u] 61)) fun e w' => e = .returned (.bool (overG t g)) ∧ Below (w.alloc (.cells #[.string g.h, .string g.b, .string g.c, .int .i64 g.t, .int .i64 g.u] 61)).heap.size (w.alloc (.cells #[.string g.h, .string g.b, .string g.c, .int .i64 g.t, .int .i64 g.u] 61)) w') := isOver_any d t g _ ((hb.cell (p := ⟨d, 0, none⟩) hdl).trans hd) (Nat.lt_of_lt_of_le hdl hb.size)
 have HB : Hid (Below w.heap.size w (w.alloc (.cells #[.string g.h, .string g.b, .string g.c, .int .i64 g.t, .int .i64 g.u] 61))) := hb
 clear hb hx hd
 go_enter Tryz.func97, Tryz.ntmps97
 go_wp2_with fail
 refine HO.out.mono ?_
 rintro e w1 ⟨rfl, hb⟩
 have HB1 : Hid (Below w.heap.size w w1) := bl_trans HB.out hb
 clear hb
 go_wp2
 go_ret
 exact ⟨rfl, HB1.out⟩
set_option maxRecDepth 4000 in
set_option maxHeartbeats 2000000 in
theorem delFunc (m1 n d xb : Nat) (t : Int) (gs : List G.GrantD) (w : World) (hown : w.ownsMap Tryz.prog 9 G.RV m1 n (G.dec gs)) (hs : G.Srt gs) (hx : w.cell? ⟨xb, 0, none⟩ = some (.pointer (some ⟨d, 0, none⟩))) (hd : w.cell? ⟨d, 0, none⟩ = some (.int .i64 t)) (hxl : xb < w.heap.size) (hdl : d < w.heap.size) (hxm : xb ≠ m1) (hdm : d ≠ m1) (hfit : ∀ g ∈ gs, g.h.size ≤ maxLen) :
  Calls Tryz.prog 96 #[.map (some m1), .func (.func 97) #[] #[.pointer (some ⟨xb, 0, none⟩)]] w fun e w' => e = .returned (.tuple #[]) ∧ w'.ownsMap Tryz.prog 9 G.RV m1 n (G.dec (stillG t gs)) ∧ w.grownBy w' (some m1) := by
 have HR1 : Hid (∀ y, w.grownBy y (some m1) → ∀ (s : ByteArray) (g : G.GrantD), Calls Tryz.prog 97 #[.string s, .agg #[.string g.h, .string g.b, .string g.c, .int .i64 g.t, .int .i64 g.u], .pointer (some ⟨xb, 0, none⟩)] y fun e w' => e = .returned (.bool (overG t g)) ∧ Below y.heap.size y w') := fun y hy s g =>
  room1_any xb d t s g y (grown_cell hy hxl hxm hx) (grown_cell hy hdl hdm hd) (Nat.lt_of_lt_of_le hxl hy.size) (Nat.lt_of_lt_of_le hdl hy.size)
 have HS : Hid (G.Srt gs) := hs
 have HF : Hid (∀ g ∈ gs, g.h.size ≤ maxLen) := hfit
 have HM : Hid (m1 < w.heap.size) := hown.lt
 clear hs hx hd hfit
 go_enter Tryz.func96, Tryz.ntmps96
 go_wp2_with (first | (at_range; refine wpList_range_own _ rfl _ 107 rfl 9 61 G.lawV Tryz.underlying107 _ m1 n _ rfl hown ?_; intro w0 hrg0 hg0 hs0) | go_in)
 go_frame
 go_loopw [4] (fun _ wr => ∃ (left : Lit → Bool) (cnt : Nat), Hid (wr.ranges Tryz.prog 9 G.RV m1 w.heap.size n (G.dec (sweptG t left gs)) left cnt) ∧ Hid (w.grownBy wr (some m1))) (fun _ wr => wr.rangeLeft m1 w.heap.size)
 case atStart => exact ⟨_, _, by show World.ranges _ _ _ _ _ _ _ _ _ _; rw [swept_start]; exact hrg0, hg0.but _⟩
 case round =>
  obtain ⟨left, cnt, HRG, HGW⟩ := hrel
  have hrg := HRG.out
  go_wp2_with (first | (at_next; refine wpList_next_ranges _ rfl _ rfl 9 G.lawV G.RV Value.string G.valG (fun key kl hkey => by obtain ⟨x, rfl, _⟩ := keyOf_string_inv hkey; exact ⟨x, rfl⟩) (fun v y hv => by obtain ⟨c, rfl, _⟩ := G.RV_shape hv; exact ⟨c, rfl⟩) m1 w.heap.size n _ _ _ rfl hrg ?_ ?_) | go_in)
  ·
   intro _ hl0
   have HL0 : Hid (∀ kl, left kl = false) := hl0
   clear hl0 hrg
   go_wp2
   go_end0
   exact ⟨rfl, by rw [← swept_end HL0.out]; exact HRG.out.owns, HGW.out⟩
  ·
   intro s g kl y1 y2 w1 cnt1 hkey hlx hv hat hrg1 hlt hg1 hs1 hen
   obtain ⟨s', e1, rfl⟩ := keyOf_string_inv hkey
   injection e1 with e1
   subst e1
   obtain ⟨g', e2, hy⟩ := G.RV_shape hv
   have hgg : g' = g := by
    unfold G.valG at e2
    injection e2 with e2
    have e3 : [Value.string g.h, .string g.b, .string g.c, .int .i64 g.t, .int .i64 g.u] = [Value.string g'.h, .string g'.b, .string g'.c, .int .i64 g'.t, .int .i64 g'.u] := congrArg Array.toList e2
    simp only [List.cons.injEq, Value.string.injEq, Value.int.injEq, true_and, and_true] at e3
    obtain ⟨a1, a2, a3, a4, a5⟩ := e3
    cases g; cases g'; simp_all
   subst hgg
   have HC : Hid (g' ∈ gs ∧ g'.h = s) := swept_came HS.out (fun zd => (hat zd).trans hy)
   have HRG1 : Hid (w1.ranges Tryz.prog 9 G.RV m1 w.heap.size n (G.dec (sweptG t left gs)) (fun z => left z && !z.sameKey (Lit.string s.data.toList)) cnt1) := hrg1
   have HLT : Hid (cnt1 < cnt) := hlt
   have HG1 : Hid (w.grownBy w1 (some m1)) := HGW.out.andThen hg1 (fun j hj => by cases hj; exact Or.inl (Nat.le_refl _))
   clear hkey hlx hv hat hrg1 hlt hg1 hs1 hy e2 hrg
   unfold G.valG at hen
   unfold G.valG
   go_wp2_with fail
   have HGX : Hid (w.grownBy (w1.alloc (.cells #[.string g'.h, .string g'.b, .string g'.c, .int .i64 g'.t, .int .i64 g'.u] 61)) (some m1)) := HG1.out.andThen (World.grownBy_alloc w1 _ none) (fun j hj => by cases hj)
   refine (HR1.out _ HGX.out s g').mono ?_
   rintro e w2 ⟨rfl, hb⟩
   have HG2 : Hid (w.grownBy w2 (some m1)) := HGX.out.andThen (below_grown hb none) (fun j hj => by cases hj)
   have HRG2 : Hid (w2.ranges Tryz.prog 9 G.RV m1 w.heap.size n (G.dec (sweptG t left gs)) (fun z => left z && !z.sameKey (Lit.string s.data.toList)) cnt1) := (HRG1.out.alloc _).kept (below_grown hb none) (by simp) (by simp)
   have HK : Hid (Lit.string s.data.toList = Lit.string (G.keyV g')) := by show _ = _; rw [G.keyV, HC.out.2]
   clear hb hen
   cases ho : overG t g'
   ·
    go_wp2
    refine ⟨⟨fun z => left z && !z.sameKey (Lit.string (G.keyV g')), cnt1, ?_, HG2.out⟩, ?_⟩
    ·
     show World.ranges _ _ _ _ _ _ _ _ _ _
     have h := HRG2.out
     rw [HK.out] at h
     rw [← swept_stays HS.out HC.out.1 ho]
     exact h
    ·
     rw [HRG2.out.left_eq, HRG.out.left_eq]
     exact HLT.out
   ·
    have hrg2 := HRG2.out
    have hkey : keyOf Tryz.prog 9 (.string s) = some (.string s.data.toList) := keyOf_string_mk Tryz.underlying9 (by rw [← HC.out.2]; exact HF.out g' HC.out.1)
    go_wp2_with (first | (at_delete; refine wpList_delete_ranges _ rfl _ _ 107 9 rfl 61 G.lawV Tryz.underlying107 _ m1 w.heap.size n _ _ _ rfl hrg2 _ _ rfl hkey ?_; intro w3 cnt2 hrg3 hle hturn; go_frame) | go_in)
    rw [strike_twice] at hrg3
    go_roundw
    case rel =>
     refine ⟨fun z => left z && !z.sameKey (Lit.string (G.keyV g')), cnt2, ?_, HG2.out.andThen hturn.grown (fun j hj => by cases hj; exact Or.inr rfl)⟩
     show World.ranges _ _ _ _ _ _ _ _ _ _
     rw [HK.out, swept_struck HS.out HC.out.1 ho] at hrg3
     exact hrg3
    case measure =>
     have h1 := HLT.out
     rw [hrg3.left_eq, HRG.out.left_eq]
     omega
end Go.Proofs.YtefkdohkjdopeaaGreatDoor
namespace Go.Proofs.YtefkdohkjdopeaaGreatDoor
open Go.RowKit Go.Maps Go.WideMaps
set_option linter.unusedVariables false
set_option maxRecDepth 4000 in
set_option maxHeartbeats 2000000 in
theorem hasRoom_any (m1 n : Nat) (h : ByteArray) (gs : List G.GrantD) (w : World) (hown : w.ownsMap Tryz.prog 9 G.RV m1 n (G.dec gs)) (hs : G.Srt gs) (hh : h.size ≤ maxLen) (hl : gs.length ≤ 1048576) :
  Calls Tryz.prog 95 #[.map (some m1), .string h] w fun e w' => e = .returned (.bool (roomG h gs)) ∧ Below w.heap.size w w' := by
 have HOWN : Hid (w.ownsMap Tryz.prog 9 G.RV m1 n (G.dec gs)) := hown
 rcases G.lookV m1 n gs hown hs h hh with ⟨r, hr, e, hrun⟩ | ⟨hno, hrun⟩
 ·
  have hroom : roomG h gs = true := by unfold roomG; rw [has_of hr e]; rfl
  rw [hroom]
  clear hown hs hr e hroom
  go_enter Tryz.func95, Tryz.ntmps95
  go_wp2
  go_ret
  exact ⟨rfl, bl_alloc (Below.refl _ _) _⟩
 ·
  have hroom : roomG h gs = decide (gs.length < 40) := by unfold roomG; rw [has_none hno]; rfl
  rw [hroom]
  have hb : Below w.heap.size w (w.alloc (.cells #[.string ⟨#[]⟩, .string ⟨#[]⟩, .string ⟨#[]⟩, .int .i64 0, .int .i64 0] 61)) := bl_alloc (Below.refl _ _) _
  have HB : Hid (Below w.heap.size w (w.alloc (.cells #[.string ⟨#[]⟩, .string ⟨#[]⟩, .string ⟨#[]⟩, .int .i64 0, .int .i64 0] 61))) := hb
  have hlen : ∀ ty, Sem.run Tryz.prog (Builtin.len_ #[107] ty #[.map (some m1)]) (w.alloc (.cells #[.string ⟨#[]⟩, .string ⟨#[]⟩, .string ⟨#[]⟩, .int .i64 0, .int .i64 0] 61)) = .ok (.int .i64 (gs.length : Int)) (w.alloc (.cells #[.string ⟨#[]⟩, .string ⟨#[]⟩, .string ⟨#[]⟩, .int .i64 0, .int .i64 0] 61)) := fun ty => by
   have h1 := (G.mapv_below hown hb).len (t := 107) (e := 61) Tryz.underlying107 ty
   rw [show G.dec gs = Ord.dec G.keyV gs from rfl, Ord.dec_size] at h1
   exact h1
  clear hown hs hno hroom hb
  by_cases hc : (gs.length : Int) < 40
  ·
   have hc2 : gs.length < 40 := by omega
   rw [decide_eq_true hc2]
   clear hc2
   go_enter Tryz.func95, Tryz.ntmps95
   go_wp2
   go_ret
   exact ⟨rfl, HB.out⟩
  ·
   have hc2 : ¬ gs.length < 40 := by omega
   rw [decide_eq_false hc2]
   clear hc2
   go_enter Tryz.func95, Tryz.ntmps95
   go_wp2
   go_ret
   exact ⟨rfl, HB.out⟩
theorem book_grants {y y' : World} {d m1 m2 n : Nat} {t : Int} {gs gs' : List G.GrantD} {rs : List Pr.PlRaw} (h : Book y d t m1 m2 gs rs) (hd : d ≠ m1) (hg : y.grownBy y' (some m1)) (ho : y'.ownsMap Tryz.prog 9 G.RV m1 n (G.dec gs')) : Book y' d t m1 m2 gs' rs := by
 obtain ⟨n2, o2⟩ := h.o2
 have hdn : some d ≠ some m1 := fun e => hd (Option.some.inj e)
 exact ⟨fun k => (World.cell?_of_block (w := y) (a := ⟨d, k, none⟩) (hg.block d h.l hdn)).trans (h.c k), fun k => (World.frozen?_of_block (w := y) (a := ⟨d, k, none⟩) (hg.block d h.l hdn)).trans (h.f k), Nat.lt_of_lt_of_le h.l hg.size, ⟨n, ho⟩, ⟨n2, o2.kept (row := some m1) hg (fun e => h.ne (Option.some.inj e).symm)⟩, h.ne⟩
theorem left_srt {t : Int} {h : ByteArray} {gs : List G.GrantD} (hs : G.Srt gs) : G.Srt (leftG t h gs) := by
 unfold leftG
 split
 ·
  exact hs
 ·
  exact still_srt hs
theorem left_mem {t : Int} {h : ByteArray} {gs : List G.GrantD} : ∀ g ∈ leftG t h gs, g ∈ gs := by
 unfold leftG
 intro g hg
 split at hg
 ·
  exact hg
 ·
  exact (List.mem_filter.1 hg).1
theorem left_len {t : Int} {h : ByteArray} {gs : List G.GrantD} : (leftG t h gs).length ≤ gs.length := by
 unfold leftG
 split
 ·
  exact Nat.le_refl _
 ·
  exact List.length_filter_le ..
set_option maxRecDepth 4000 in
set_option maxHeartbeats 2000000 in
theorem makeRoom_any (d m1 m2 n : Nat) (t : Int) (h : ByteArray) (gs : List G.GrantD) (rs : List Pr.PlRaw) (w : World) (hB : Book w d t m1 m2 gs rs) (hown : w.ownsMap Tryz.prog 9 G.RV m1 n (G.dec gs)) (hd : d ≠ m1) (hs : G.Srt gs) (hh : h.size ≤ maxLen) (hl : gs.length ≤ 1048576) (hfit : ∀ g ∈ gs, g.h.size ≤ maxLen) :
  Calls Tryz.prog 79 #[.pointer (some ⟨d, 0, none⟩), .string h] w fun e w' => e = .returned (.bool (roomG h (leftG t h gs))) ∧ Book w' d t m1 m2 (leftG t h gs) rs ∧ w'.ownsMap Tryz.prog 9 G.RV m1 n (G.dec (leftG t h gs)) ∧ w.grownBy w' (some m1) := by
 obtain ⟨W0, hW0⟩ : ∃ W0, W0 = w.alloc (.cells #[.pointer (some ⟨d, 0, none⟩)] 69) := ⟨_, rfl⟩
 have HW0 : Hid (W0 = w.alloc (.cells #[.pointer (some ⟨d, 0, none⟩)] 69)) := hW0
 have B0 : Hid (Below w.heap.size w W0) := by rw [hW0]; exact bl_alloc (Below.refl _ _) _
 have Z0 : Hid (w.heap.size < W0.heap.size) := by rw [hW0]; show _ < _; simp
 obtain ⟨xb, hxb⟩ : ∃ xb, xb = w.heap.size := ⟨_, rfl⟩
 have HXB : Hid (xb = w.heap.size) := hxb
 have KX : Hid (∀ y, W0.grownBy y (some m1) → y.cell? ⟨xb, 0, none⟩ = some (.pointer (some ⟨d, 0, none⟩))) := by
  intro y hy
  have hm := hown.lt
  refine grown_cell hy (by have := Z0.out; omega) (by omega) ?_
  rw [hW0, hxb]
  simp [go_sem]
 have BK : Hid (∀ y, Below W0.heap.size W0 y → Book y d t m1 m2 gs rs ∧ y.ownsMap Tryz.prog 9 G.RV m1 n (G.dec gs)) := fun y hy => ⟨hB.keep (bl_trans B0.out hy), G.mapv_below hown (bl_trans B0.out hy)⟩
 have HR : Hid (∀ y (gs' : List G.GrantD), y.ownsMap Tryz.prog 9 G.RV m1 n (G.dec gs') → G.Srt gs' → gs'.length ≤ gs.length → Calls Tryz.prog 95 #[.map (some m1), .string h] y fun e w' => e = .returned (.bool (roomG h gs')) ∧ Below y.heap.size y w') := fun y gs' ho hs' hl' => hasRoom_any m1 n h gs' y ho hs' hh (by omega)
 have DF : Hid (∀ y, Below W0.heap.size W0 y → Calls Tryz.prog 96 #[.map (some m1), .func (.func 97) #[] #[.pointer (some ⟨xb, 0, none⟩)]] y fun e w' => e = .returned (.tuple #[]) ∧ w'.ownsMap Tryz.prog 9 G.RV m1 n (G.dec (stillG t gs)) ∧ y.grownBy w' (some m1)) := by
  intro y hy
  have hm := hown.lt
  have hk := BK.out y hy
  have hz := Z0.out
  have hzy := hy.size
  exact delFunc m1 n d xb t gs y hk.2 hs (KX.out y (below_grown hy _)) (hk.1.c 0) (by omega) hk.1.l (by omega) hd hfit
 have HS : Hid (G.Srt gs) := hs
 have HD : Hid (d ≠ m1) := hd
 clear hW0 hB hown hs hfit hd
 go_enter Tryz.func79, Tryz.ntmps79
 go_upto_region 1 with fail
 rw [← HW0.out, ← hxb]
 clear hxb
 have k0 : W0.cell? ⟨xb, 0, none⟩ = some (.pointer (some ⟨d, 0, none⟩)) := KX.out W0 (below_grown (Below.refl _ _) _)
 have k1 : W0.cell? ⟨d, 1, none⟩ = some (.map (some m1)) := (BK.out W0 (Below.refl _ _)).1.c 1
 go_wp2_with fail
 clear k0 k1
 refine (HR.out W0 gs (BK.out W0 (Below.refl _ _)).2 HS.out (Nat.le_refl _)).mono ?_
 rintro e w1 ⟨rfl, c1⟩
 have C1 : Hid (Below W0.heap.size W0 w1) := c1
 clear c1
 cases hr : roomG h gs
 ·
  have E1 : Hid (leftG t h gs = stillG t gs) := by show _ = _; unfold leftG; rw [hr]; rfl
  clear hr
  have k0 : w1.cell? ⟨xb, 0, none⟩ = some (.pointer (some ⟨d, 0, none⟩)) := KX.out w1 (below_grown C1.out _)
  have k1 : w1.cell? ⟨d, 1, none⟩ = some (.map (some m1)) := (BK.out w1 C1.out).1.c 1
  go_wp2_with fail
  clear k0 k1
  refine (DF.out w1 C1.out).mono ?_
  rintro e w2 ⟨rfl, o2, g2⟩
  have G2 : Hid (w1.grownBy w2 (some m1)) := g2
  have B2 : Hid (Book w2 d t m1 m2 (stillG t gs) rs) := book_grants (BK.out w1 C1.out).1 HD.out g2 o2
  have O2 : Hid (w2.ownsMap Tryz.prog 9 G.RV m1 n (G.dec (stillG t gs))) := o2
  have GW2 : Hid (W0.grownBy w2 (some m1)) := (below_grown C1.out (some m1)).andThen g2 (fun j hj => Or.inr hj)
  clear o2 g2
  have k0 : w2.cell? ⟨xb, 0, none⟩ = some (.pointer (some ⟨d, 0, none⟩)) := KX.out w2 GW2.out
  have k1 : w2.cell? ⟨d, 1, none⟩ = some (.map (some m1)) := B2.out.c 1
  go_wp2_with fail
  clear k0 k1
  refine (HR.out w2 (stillG t gs) O2.out (still_srt HS.out) (List.length_filter_le ..)).mono ?_
  rintro e w3 ⟨rfl, c3⟩
  have C3 : Hid (Below w2.heap.size w2 w3) := c3
  clear c3
  go_wp2
  go_ret
  rw [E1.out]
  exact ⟨rfl, B2.out.keep C3.out, G.mapv_below O2.out C3.out, ((below_grown B0.out (some m1)).andThen GW2.out (fun j hj => Or.inr hj)).andThen (below_grown C3.out (some m1)) (fun j hj => Or.inr hj)⟩
 ·
  have E1 : Hid (leftG t h gs = gs) := by show _ = _; unfold leftG; rw [hr]; rfl
  have HR9 : Hid (roomG h gs = true) := hr
  clear hr
  have k0 : w1.cell? ⟨xb, 0, none⟩ = some (.pointer (some ⟨d, 0, none⟩)) := KX.out w1 (below_grown C1.out _)
  have k1 : w1.cell? ⟨d, 1, none⟩ = some (.map (some m1)) := (BK.out w1 C1.out).1.c 1
  go_wp2_with fail
  clear k0 k1
  refine (HR.out w1 gs (BK.out w1 C1.out).2 HS.out (Nat.le_refl _)).mono ?_
  rintro e w3 ⟨rfl, c3⟩
  have C3 : Hid (Below W0.heap.size W0 w3) := bl_trans C1.out c3
  clear c3
  go_wp2
  go_ret
  rw [E1.out]
  exact ⟨rfl, (BK.out w3 C3.out).1, (BK.out w3 C3.out).2, below_grown (bl_trans B0.out C3.out) _⟩
def depsAny (ops : Array Oper) : Bool := (List.range ops.size).all fun i => match ops[i]? with | some o => o.after.toList.all (fun e => !Region.binds .any e || decide (e.on < i)) | none => true
theorem all_listedA {ops : Array Oper} {listed : Array Bool} (hd : depsAny ops = true) (hr : Region.ready .any ops listed = []) (hz : listed.size = ops.size) : ∀ i, i < ops.size → listed.getD i false = true := by
 intro i
 induction i using Nat.strongRecOn with
 | ind i ih =>
  intro hi
  have hl : listed.getD i false = listed[i]'(by omega) := by simp [Array.getD, show i < listed.size from by omega]
  have hl' : listed.getD i true = listed[i]'(by omega) := by simp [Array.getD, show i < listed.size from by omega]
  cases hb : listed[i]'(by omega) with
  | true => rw [hl, hb]
  | false =>
   exfalso
   have hmem : i ∈ Region.ready .any ops listed := by
    simp only [Region.ready, List.mem_filter, List.mem_range, hi, true_and, hl', hb, Bool.not_false, Bool.true_and]
    have ho : ops[i]? = some ops[i] := Array.getElem?_eq_getElem hi
    rw [ho]
    simp only [Option.map_some, Option.getD_some]
    have h1 := List.all_eq_true.1 hd i (List.mem_range.2 hi)
    rw [ho] at h1
    simp only at h1
    rw [← Array.all_toList]
    refine List.all_eq_true.2 fun e he => ?_
    have h2 := List.all_eq_true.1 h1 e he
    cases hbd : Region.binds .any e
    ·
     simp
    ·
     rw [hbd] at h2
     have h3 := of_decide_eq_true (show decide (e.on < i) = true by simpa using h2)
     rw [ih e.on h3 (by omega)]
     simp
   rw [hr] at hmem
   cases hmem
structure Ig (sl : Nat → Nat) (n : Nat) (ops : Array Oper) (a0 : Act) (G : Array Bool → World → Nat → Value → Prop) (D : Array Bool → World → Prop) (listed : Array Bool) (a : Act) (w : World) : Prop where
 df : a.defers = a0.defers
 sz : a.tmps.size = a0.tmps.size
 out : ∀ k, (∀ i, i < n → sl i ≠ k) → a.tmps.getD k undef = a0.tmps.getD k undef
 lz : listed.size = n
 tr : ∀ i j, waits .any ops i j = true → listed.getD i false = true → listed.getD j false = true
 good : ∀ i, i < n → listed.getD i false = true → G listed w i (a.tmps.getD (sl i) undef)
 d : D listed w
section
variable {sl : Nat → Nat} {n : Nat} {ops : Array Oper} {a0 : Act} {G : Array Bool → World → Nat → Value → Prop} {D : Array Bool → World → Prop} {listed : Array Bool} {a : Act} {w w' : World} {i : Nat} {v : Value}
theorem Ig.put (h : Ig sl n ops a0 G D listed a w) (hr : i ∈ Region.ready .any ops listed) (hi : i < n) (hlt : sl i < a0.tmps.size) (hinj : ∀ j, j < n → sl j = sl i → j = i) (hg : G (listed.setIfInBounds i true) w' i v)
  (hk : ∀ j u, u = a.tmps.getD (sl j) undef → j < n → j ≠ i → listed.getD j false = true → G listed w j u → G (listed.setIfInBounds i true) w' j u) (hd : D (listed.setIfInBounds i true) w') : Ig sl n ops a0 G D (listed.setIfInBounds i true) (a.put (some (sl i)) v) w' := by
 have hsz := h.sz
 have hlz := h.lz
 refine ⟨h.df, by simpa [Act.put] using hsz, ?_, by simpa using hlz, trT hr (by omega) h.tr, ?_, hd⟩
 ·
  intro k hko
  rw [← h.out k hko]
  simp only [Act.put, Array.getD_eq_getD_getElem?]
  rw [Array.getElem?_setIfInBounds_ne (hko i hi)]
 ·
  intro j hj hl
  by_cases e : j = i
  ·
   subst e
   simp only [Act.put, Array.getD_eq_getD_getElem?]
   rw [Array.getElem?_setIfInBounds_self_of_lt (by omega)]
   exact hg
  ·
   rw [setT_ne e] at hl
   have h1 := hk j _ rfl hj e hl (h.good j hj hl)
   simp only [Act.put, Array.getD_eq_getD_getElem?] at h1 ⊢
   rw [Array.getElem?_setIfInBounds_ne (fun e' => e (hinj j hj e'.symm))]
   exact h1
theorem Ig.nil (h : Ig sl n ops a0 G D listed a w) (hr : i ∈ Region.ready .any ops listed) (hi : i < n) (hg : ∀ u, G (listed.setIfInBounds i true) w' i u)
  (hk : ∀ j u, u = a.tmps.getD (sl j) undef → j < n → j ≠ i → listed.getD j false = true → G listed w j u → G (listed.setIfInBounds i true) w' j u) (hd : D (listed.setIfInBounds i true) w') (u : Value) : Ig sl n ops a0 G D (listed.setIfInBounds i true) (a.put none u) w' := by
 have hlz := h.lz
 refine ⟨h.df, h.sz, h.out, by simpa using hlz, trT hr (by omega) h.tr, ?_, hd⟩
 intro j hj hl
 by_cases e : j = i
 ·
  subst e
  exact hg _
 ·
  rw [setT_ne e] at hl
  exact hk j _ rfl hj e hl (h.good j hj hl)
theorem Ig.shut (h : Ig sl n ops a0 G D listed a w) {j : Nat} (ho : listed.getD i true = false) (hw : waits .any ops j i = true) : listed.getD j false = false := noT (fun hx => openT ho (h.tr j i hw hx))
end
theorem reg_invG {P : Program} {ops : Array Oper} {Q : Exit → Act → World → Prop} {a0 : Act} {w0 : World} (sl : Nat → Nat) (n : Nat) (G : Array Bool → World → Nat → Value → Prop) (D : Array Bool → World → Prop)
  (hd : depsAny ops = true) (hops : ops.size = n) (hD : D (Array.replicate ops.size false) w0)
  (done : ∀ L a y, (∀ i, i < n → L.getD i false = true) → a.defers = a0.defers → a.tmps.size = a0.tmps.size → (∀ k, (∀ i, i < n → sl i ≠ k) → a.tmps.getD k undef = a0.tmps.getD k undef) → (∀ i, i < n → G L y i (a.tmps.getD (sl i) undef)) → D L y → Q .normal a y)
  (step : ∀ listed x y i, Ig sl n ops a0 G D listed x y → i ∈ Region.ready .any ops listed → i < n → wpOp P ops Q i (Ig sl n ops a0 G D (listed.setIfInBounds i true)) x y) :
  wpAny P .any ops Q ops.size (Array.replicate ops.size false) a0 w0 := by
 have hrep : openOf (Array.replicate ops.size false) ≤ ops.size := by
  unfold openOf
  exact Nat.le_trans List.countP_le_length (by simp)
 have hno : ∀ k j, (Array.replicate k false).getD j false = false := fun k j => by
  simp only [Array.getD_eq_getD_getElem?, Array.getElem?_replicate]
  split <;> rfl
 refine wpAny_inv (Ig sl n ops a0 G D) (fun listed x y i hI hi => step listed x y i hI hi (by have := List.mem_range.1 (List.mem_filter.1 hi).1; omega)) ?_ _ _ _ _ hrep ?_
 ·
  intro listed x y hI hr
  have hall := all_listedA hd hr (by rw [hI.lz, hops])
  exact done listed x y (fun i hi => hall i (by omega)) hI.df hI.sz hI.out (fun i hi => hI.good i hi (hall i (by omega))) hI.d
 ·
  exact ⟨rfl, rfl, fun _ _ => rfl, by simp [hops], (fun i j _ h => by rw [hno] at h; cases h), (fun i _ h => by rw [hno] at h; cases h), hD⟩
end Go.Proofs.YtefkdohkjdopeaaGreatDoor
