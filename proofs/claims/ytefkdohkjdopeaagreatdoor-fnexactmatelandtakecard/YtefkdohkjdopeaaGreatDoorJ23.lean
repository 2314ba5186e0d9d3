import Derived.Test.YtefkdohkjdopeaaGreatDoorJ22
namespace Go.Proofs.YtefkdohkjdopeaaGreatDoor
open Go.RowKit Go.Maps Go.WideMaps
set_option linter.unusedVariables false
theorem foundP (p : TakeP) (ps : List P.PlaceD) (hs : Ord.Srt keyP ps) (hb : p.b.size ≤ maxLen) : ∃ (r : Pr.PlRaw) (ws : List W.WantD), r.n = ws.length ∧ wantedL p ps = wantedW p ws ∧ (∀ y : World, (∀ q ∈ ps, W.Src y q.a q.c q.ws) → W.Gv y r.a ws) ∧ ((∀ q ∈ ps, q.ws.length ≤ 1048576) → ws.length ≤ 1048576) ∧ ∀ (y : World) (m n : Nat), y.ownsMap Tryz.prog 9 Pr.RV m n (Pr.dec (ps.map Pr.raw)) → Sem.run Tryz.prog (Instr.lookup 110 (.map (some m)) (.string p.b) false) y = .ok (.agg #[.string r.b, .int .i64 r.s, .slice r.a r.n r.c]) y := by
 by_cases hx : ∃ q ∈ ps, q.b = p.b
 ·
  obtain ⟨q, hq, e⟩ := hx
  refine ⟨Pr.raw q, q.ws, rfl, wanted_of hs hq e, fun y h => (h q hq).gv, fun h => h q hq, fun y m n ho => ?_⟩
  rcases Pr.look1V m n (ps.map Pr.raw) ho (srtP_raw hs) p.b hb with ⟨r, hr, e', hrun⟩ | ⟨hno, -⟩
  ·
   obtain ⟨q', hq', rfl⟩ := List.mem_map.1 hr
   have e2 : q'.b = q.b := (show q'.b = p.b from e').trans e.symm
   rw [srtP_one hs hq hq' e2] at hrun
   exact hrun
  ·
   exact (hno (Pr.raw q) (List.mem_map_of_mem hq) e).elim
 ·
  refine ⟨⟨⟨#[]⟩, 0, none, 0, 0⟩, [], rfl, ?_, fun y _ => Or.inl rfl, fun _ => by simp, fun y m n ho => ?_⟩
  ·
   rw [wanted_none (fun q hq e => hx ⟨q, hq, e⟩)]
   rfl
  ·
   rcases Pr.look1V m n (ps.map Pr.raw) ho (srtP_raw hs) p.b hb with ⟨r, hr, e', -⟩ | ⟨-, hrun⟩
   ·
    obtain ⟨q', hq', rfl⟩ := List.mem_map.1 hr
    exact (hx ⟨q', hq', e'⟩).elim
   ·
    exact hrun
def slWn : Nat → Nat
 | 0 => 5
 | 1 => 6
 | 2 => 7
 | 3 => 8
 | 4 => 9
 | 5 => 10
 | 6 => 11
 | 7 => 12
 | 8 => 13
 | 9 => 14
 | 10 => 4
 | _ => 0
theorem slWn_inj (i : Nat) (hi : i < 11) : ∀ j, j < 11 → slWn j = slWn i → j = i := by
 have h : ∀ a : _root_.Fin 11, ∀ b : _root_.Fin 11, slWn b.1 = slWn a.1 → b.1 = a.1 := by decide +kernel
 intro j hj e
 exact h ⟨i, hi⟩ ⟨j, hj⟩ e
theorem slWn_far : ∀ j, j < 100000 → (j < 4 ∨ 4 + 11 ≤ j) → ∀ i, i < 11 → slWn i ≠ j := by
 intro j h1 h2 i hi
 match i, hi with
 | 0, _ => show 5 ≠ j; omega
 | 1, _ => show 6 ≠ j; omega
 | 2, _ => show 7 ≠ j; omega
 | 3, _ => show 8 ≠ j; omega
 | 4, _ => show 9 ≠ j; omega
 | 5, _ => show 10 ≠ j; omega
 | 6, _ => show 11 ≠ j; omega
 | 7, _ => show 12 ≠ j; omega
 | 8, _ => show 13 ≠ j; omega
 | 9, _ => show 14 ≠ j; omega
 | 10, _ => show 4 ≠ j; omega
 | m + 11, h => exact absurd h (by omega)
def GWn (d pb m2 : Nat) (b : ByteArray) (r : Pr.PlRaw) (q : Bool) (L : Array Bool) (w : World) : Nat → Value → Prop
 | 0, v => v = .pointer (some ⟨d, 0, none⟩)
 | 1, v => v = .pointer (some ⟨d, 0, none⟩)
 | 2, v => v = .pointer (some ⟨d, 2, none⟩)
 | 3, v => v = .map (some m2)
 | 4, v => v = .pointer (some ⟨pb, 1, none⟩)
 | 5, v => v = .string b
 | 6, v => v = .agg #[.string r.b, .int .i64 r.s, .slice r.a r.n r.c]
 | 7, v => v = .slice r.a r.n r.c
 | 8, v => v = .func (.func 93) #[] #[.pointer (some ⟨pb, 0, none⟩)]
 | 9, v => v = .bool q
 | 10, v => v = .bool q
 | _, _ => True
theorem GWn.keep {d pb m2 : Nat} {b : ByteArray} {r : Pr.PlRaw} {q : Bool} {L L' : Array Bool} {w w' : World}  : ∀ j v, GWn d pb m2 b r q L w j v → GWn d pb m2 b r q L' w' j v
 | 0, _, h => h
 | 1, _, h => h
 | 2, _, h => h
 | 3, _, h => h
 | 4, _, h => h
 | 5, _, h => h
 | 6, _, h => h
 | 7, _, h => h
 | 8, _, h => h
 | 9, _, h => h
 | 10, _, h => h
 | _ + 11, _, h => h
set_option maxRecDepth 4000 in
set_option maxHeartbeats 4000000 in
theorem isWanted_any (d m1 m2 : Nat) (t : Int) (p : TakeP) (s : Int) (a : Option Addr) (nw cw : Nat) (gs : List G.GrantD) (ps : List P.PlaceD) (w : World) (hB : Book w d t m1 m2 gs (ps.map Pr.raw)) (hs : Ord.Srt keyP ps) (hsrc : ∀ q ∈ ps, W.Src w q.a q.c q.ws) (hln : ∀ q ∈ ps, q.ws.length ≤ 1048576) (hf : p.fits) :
  Calls Tryz.prog 77 #[.pointer (some ⟨d, 0, none⟩), .agg #[.int .i64 p.k, .string p.b, .int .i64 s, .slice a nw cw, .string p.h, .string p.c, .int .i64 p.t]] w fun e w' => e = .returned (.bool (wantedL p ps)) ∧ Below w.heap.size w w' := by
 obtain ⟨r, ws, hn, hw, hgv, hl, hlk⟩ := foundP p ps hs hf.b
 obtain ⟨q, hq⟩ : ∃ q, q = wantedL p ps := ⟨_, rfl⟩
 have HQ : Hid (q = wantedL p ps) := hq
 obtain ⟨W0, hW0⟩ : ∃ W0, W0 = w.alloc (.cells #[.int .i64 p.k, .string p.b, .int .i64 s, .slice a nw cw, .string p.h, .string p.c, .int .i64 p.t] 41) := ⟨_, rfl⟩
 have HW0 : Hid (W0 = w.alloc (.cells #[.int .i64 p.k, .string p.b, .int .i64 s, .slice a nw cw, .string p.h, .string p.c, .int .i64 p.t] 41)) := hW0
 have B0 : Hid (Below w.heap.size w W0) := by rw [hW0]; exact bl_alloc (Below.refl _ _) _
 obtain ⟨pb, hpb⟩ : ∃ pb, pb = w.heap.size := ⟨_, rfl⟩
 have ZB : Hid (pb < W0.heap.size) := by rw [hW0, hpb]; show _ < _; simp
 have KP : Hid (∀ y, Below W0.heap.size W0 y → ∀ j, y.cell? ⟨pb, j, none⟩ = (#[.int .i64 p.k, .string p.b, .int .i64 s, .slice a nw cw, .string p.h, .string p.c, .int .i64 p.t] : Array Value)[j]?) := by
  intro y hb j
  rw [hW0] at hb
  rw [hpb, box_keep hb j]
  simp [go_sem]
 have KD : Hid (∀ y, Below W0.heap.size W0 y → y.cell? ⟨d, 2, none⟩ = some (.map (some m2))) := fun y hy => (hB.keep (bl_trans B0.out hy)).c 2
 have LK : Hid (∀ y, Below W0.heap.size W0 y → Sem.run Tryz.prog (Instr.lookup 110 (.map (some m2)) (.string p.b) false) y = .ok (.agg #[.string r.b, .int .i64 r.s, .slice r.a r.n r.c]) y) := fun y hy => by
  obtain ⟨n, ho⟩ := (hB.keep (bl_trans B0.out hy)).o2
  exact hlk y m2 n ho
 have CW : Hid (∀ y, Below W0.heap.size W0 y → Calls Tryz.prog 92 #[.slice r.a r.n r.c, .func (.func 93) #[] #[.pointer (some ⟨pb, 0, none⟩)]] y fun e w' => e = .returned (.bool q) ∧ Below y.heap.size y w') := fun y hy => by
  rw [hq, hw, hn]
  exact containsW p r.a r.c ws pb y (hgv y (fun q' hq' => (hsrc q' hq').keep (bl_trans B0.out hy))) (hl hln) (KP.out y hy 4) (KP.out y hy 5) (Nat.lt_of_lt_of_le ZB.out hy.size)
 clear hB hs hf hW0 hlk hn hw hgv hl hsrc hln hq
 go_enter Tryz.func77, Tryz.ntmps77
 go_wp2_with fail
 rw [← HW0.out, ← hpb]
 have HPB : Hid (pb = w.heap.size) := hpb
 clear hpb
 refine wp_region_any (by kernel_rfl) ?_
 refine reg_invG slWn 11 (GWn d pb m2 p.b r q) (fun _ y => Below W0.heap.size W0 y) (by decide) rfl (bl_drew (Below.refl _ _)) ?done ?step
 case done =>
  intro L a y hL hdf hsz hout hG hD
  have h4 : _ = Value.bool q := hG 10 (by omega)
  have HY : Hid (Below W0.heap.size W0 y) := hD
  clear hG hD hL
  obtain ⟨l', hl', ha⟩ := frameP_of (lo := 4) (n := 11) hdf hsz (fun j hj => by
   by_cases hj9 : j < 100000
   ·
    exact hout j (fun i hi => slWn_far j hj9 hj i hi)
   ·
    rw [Array.getD_eq_getD_getElem?, Array.getD_eq_getD_getElem?, Array.getElem?_eq_none (Nat.le_trans (Nat.le_of_eq hsz) (Nat.le_trans (Nat.le_of_ble_eq_true rfl) (Nat.le_of_not_lt hj9))), Array.getElem?_eq_none (Nat.le_trans (Nat.le_of_ble_eq_true rfl) (Nat.le_of_not_lt hj9))]) (Nat.le_of_ble_eq_true rfl)
  subst ha
  obtain ⟨u0, ul0, rfl, uh0⟩ := lenP_succ hl'
  obtain ⟨u1, ul1, rfl, uh1⟩ := lenP_succ uh0
  obtain ⟨u2, ul2, rfl, uh2⟩ := lenP_succ uh1
  obtain ⟨u3, ul3, rfl, uh3⟩ := lenP_succ uh2
  obtain ⟨u4, ul4, rfl, uh4⟩ := lenP_succ uh3
  obtain ⟨u5, ul5, rfl, uh5⟩ := lenP_succ uh4
  obtain ⟨u6, ul6, rfl, uh6⟩ := lenP_succ uh5
  obtain ⟨u7, ul7, rfl, uh7⟩ := lenP_succ uh6
  obtain ⟨u8, ul8, rfl, uh8⟩ := lenP_succ uh7
  obtain ⟨u9, ul9, rfl, uh9⟩ := lenP_succ uh8
  obtain ⟨u10, ul10, rfl, uh10⟩ := lenP_succ uh9
  obtain rfl := lenP_zero uh10
  have h4' : u0 = _ := h4
  subst h4'
  clear h4 hdf hsz hout
  simp only [List.take_succ_cons, List.take_zero, List.drop_succ_cons, List.drop_zero, List.cons_append, List.nil_append, Nat.reduceAdd]
  go_wp2
  go_ret
  exact ⟨by rw [HQ.out]; rfl, bl_trans B0.out HY.out⟩
 case step =>
  intro listed x y i hI hi hlt
  obtain rfl | rfl | rfl | rfl | rfl | rfl | rfl | rfl | rfl | rfl | rfl : i = 0 ∨ i = 1 ∨ i = 2 ∨ i = 3 ∨ i = 4 ∨ i = 5 ∨ i = 6 ∨ i = 7 ∨ i = 8 ∨ i = 9 ∨ i = 10 := by omega
  ·
   have e1 : x.tmps[0]?.getD undef = .pointer (some ⟨d, 0, none⟩) := ev_tmp (hI.out 0 (fun i hi => slWn_far 0 (by omega) (by omega) i hi))
   have ho := ready_open hi
   have HLZ : Hid (listed.size = 11) := hI.lz
   have HD : Hid (Below W0.heap.size W0 y) := hI.d
   have HJ : Hid (Ig _ _ _ _ _ _ _ _ _) := hI
   have HI : Hid (_ ∈ Region.ready _ _ _) := hi
   have HO : Hid (_ = false) := ho
   clear hi hI ho
   refine wpOp_plain rfl rfl ?_
   refine wp_cover (fun K hK => ?_)
   go_simp
   exact hK.out _ _ (HJ.out.put HI.out (by omega) (Nat.le_of_ble_eq_true rfl) (slWn_inj _ (by omega)) (rfl) (fun j u _ _ _ _ h => GWn.keep j u h) (HD.out))
  ·
   have gf0 : GWn d pb m2 p.b r q listed y 0 (x.tmps.getD 5 undef) := hI.good 0 (by omega) (waits_of hi (by rfl))
   have e1 : x.tmps[5]?.getD undef = .pointer (some ⟨d, 0, none⟩) := ev_tmp gf0
   have ho := ready_open hi
   have HLZ : Hid (listed.size = 11) := hI.lz
   have HD : Hid (Below W0.heap.size W0 y) := hI.d
   have HJ : Hid (Ig _ _ _ _ _ _ _ _ _) := hI
   have HI : Hid (_ ∈ Region.ready _ _ _) := hi
   have HO : Hid (_ = false) := ho
   clear hi hI ho
   refine wpOp_plain rfl rfl ?_
   refine wp_cover (fun K hK => ?_)
   go_simp
   exact hK.out _ _ (HJ.out.put HI.out (by omega) (Nat.le_of_ble_eq_true rfl) (slWn_inj _ (by omega)) (rfl) (fun j u _ _ _ _ h => GWn.keep j u h) (HD.out))
  ·
   have gf1 : GWn d pb m2 p.b r q listed y 1 (x.tmps.getD 6 undef) := hI.good 1 (by omega) (waits_of hi (by rfl))
   have e1 : x.tmps[6]?.getD undef = .pointer (some ⟨d, 0, none⟩) := ev_tmp gf1
   have ho := ready_open hi
   have HLZ : Hid (listed.size = 11) := hI.lz
   have HD : Hid (Below W0.heap.size W0 y) := hI.d
   have HJ : Hid (Ig _ _ _ _ _ _ _ _ _) := hI
   have HI : Hid (_ ∈ Region.ready _ _ _) := hi
   have HO : Hid (_ = false) := ho
   clear hi hI ho
   refine wpOp_plain rfl rfl ?_
   refine wp_cover (fun K hK => ?_)
   go_simp
   exact hK.out _ _ (HJ.out.put HI.out (by omega) (Nat.le_of_ble_eq_true rfl) (slWn_inj _ (by omega)) (rfl) (fun j u _ _ _ _ h => GWn.keep j u h) (HD.out))
  ·
   have gf2 : GWn d pb m2 p.b r q listed y 2 (x.tmps.getD 7 undef) := hI.good 2 (by omega) (waits_of hi (by rfl))
   have e1 : x.tmps[7]?.getD undef = .pointer (some ⟨d, 2, none⟩) := ev_tmp gf2
   have k1 : y.cell? ⟨d, 2, none⟩ = some (.map (some m2)) := KD.out y hI.d
   have ho := ready_open hi
   have HLZ : Hid (listed.size = 11) := hI.lz
   have HD : Hid (Below W0.heap.size W0 y) := hI.d
   have HJ : Hid (Ig _ _ _ _ _ _ _ _ _) := hI
   have HI : Hid (_ ∈ Region.ready _ _ _) := hi
   have HO : Hid (_ = false) := ho
   clear hi hI ho
   refine wpOp_plain rfl rfl ?_
   refine wp_cover (fun K hK => ?_)
   go_simp
   exact hK.out _ _ (HJ.out.put HI.out (by omega) (Nat.le_of_ble_eq_true rfl) (slWn_inj _ (by omega)) (rfl) (fun j u _ _ _ _ h => GWn.keep j u h) (HD.out))
  ·
   have e1 : x.tmps[3]?.getD undef = .pointer (some ⟨pb, 0, none⟩) := ev_tmp (hI.out 3 (fun i hi => slWn_far 3 (by omega) (by omega) i hi))
   have ho := ready_open hi
   have HLZ : Hid (listed.size = 11) := hI.lz
   have HD : Hid (Below W0.heap.size W0 y) := hI.d
   have HJ : Hid (Ig _ _ _ _ _ _ _ _ _) := hI
   have HI : Hid (_ ∈ Region.ready _ _ _) := hi
   have HO : Hid (_ = false) := ho
   clear hi hI ho
   refine wpOp_plain rfl rfl ?_
   refine wp_cover (fun K hK => ?_)
   go_simp
   exact hK.out _ _ (HJ.out.put HI.out (by omega) (Nat.le_of_ble_eq_true rfl) (slWn_inj _ (by omega)) (rfl) (fun j u _ _ _ _ h => GWn.keep j u h) (HD.out))
  ·
   have gf4 : GWn d pb m2 p.b r q listed y 4 (x.tmps.getD 9 undef) := hI.good 4 (by omega) (waits_of hi (by rfl))
   have e1 : x.tmps[9]?.getD undef = .pointer (some ⟨pb, 1, none⟩) := ev_tmp gf4
   have k1 : y.cell? ⟨pb, 1, none⟩ = some (.string p.b) := KP.out y hI.d 1
   have ho := ready_open hi
   have HLZ : Hid (listed.size = 11) := hI.lz
   have HD : Hid (Below W0.heap.size W0 y) := hI.d
   have HJ : Hid (Ig _ _ _ _ _ _ _ _ _) := hI
   have HI : Hid (_ ∈ Region.ready _ _ _) := hi
   have HO : Hid (_ = false) := ho
   clear hi hI ho
   refine wpOp_plain rfl rfl ?_
   refine wp_cover (fun K hK => ?_)
   go_simp
   exact hK.out _ _ (HJ.out.put HI.out (by omega) (Nat.le_of_ble_eq_true rfl) (slWn_inj _ (by omega)) (rfl) (fun j u _ _ _ _ h => GWn.keep j u h) (HD.out))
  ·
   have gf3 : GWn d pb m2 p.b r q listed y 3 (x.tmps.getD 8 undef) := hI.good 3 (by omega) (waits_of hi (by rfl))
   have e1 : x.tmps[8]?.getD undef = .map (some m2) := ev_tmp gf3
   have gf5 : GWn d pb m2 p.b r q listed y 5 (x.tmps.getD 10 undef) := hI.good 5 (by omega) (waits_of hi (by rfl))
   have e2 : x.tmps[10]?.getD undef = .string p.b := ev_tmp gf5
   have k1 := LK.out y hI.d
   have ho := ready_open hi
   have HLZ : Hid (listed.size = 11) := hI.lz
   have HD : Hid (Below W0.heap.size W0 y) := hI.d
   have HJ : Hid (Ig _ _ _ _ _ _ _ _ _) := hI
   have HI : Hid (_ ∈ Region.ready _ _ _) := hi
   have HO : Hid (_ = false) := ho
   clear hi hI ho
   refine wpOp_plain rfl rfl ?_
   refine wp_cover (fun K hK => ?_)
   go_simp
   exact hK.out _ _ (HJ.out.put HI.out (by omega) (Nat.le_of_ble_eq_true rfl) (slWn_inj _ (by omega)) (rfl) (fun j u _ _ _ _ h => GWn.keep j u h) (HD.out))
  ·
   have gf6 : GWn d pb m2 p.b r q listed y 6 (x.tmps.getD 11 undef) := hI.good 6 (by omega) (waits_of hi (by rfl))
   have e1 : x.tmps[11]?.getD undef = .agg #[.string r.b, .int .i64 r.s, .slice r.a r.n r.c] := ev_tmp gf6
   have ho := ready_open hi
   have HLZ : Hid (listed.size = 11) := hI.lz
   have HD : Hid (Below W0.heap.size W0 y) := hI.d
   have HJ : Hid (Ig _ _ _ _ _ _ _ _ _) := hI
   have HI : Hid (_ ∈ Region.ready _ _ _) := hi
   have HO : Hid (_ = false) := ho
   clear hi hI ho
   refine wpOp_plain rfl rfl ?_
   refine wp_cover (fun K hK => ?_)
   go_simp
   exact hK.out _ _ (HJ.out.put HI.out (by omega) (Nat.le_of_ble_eq_true rfl) (slWn_inj _ (by omega)) (rfl) (fun j u _ _ _ _ h => GWn.keep j u h) (HD.out))
  ·
   have e1 : x.tmps[3]?.getD undef = .pointer (some ⟨pb, 0, none⟩) := ev_tmp (hI.out 3 (fun i hi => slWn_far 3 (by omega) (by omega) i hi))
   have ho := ready_open hi
   have HLZ : Hid (listed.size = 11) := hI.lz
   have HD : Hid (Below W0.heap.size W0 y) := hI.d
   have HJ : Hid (Ig _ _ _ _ _ _ _ _ _) := hI
   have HI : Hid (_ ∈ Region.ready _ _ _) := hi
   have HO : Hid (_ = false) := ho
   clear hi hI ho
   refine wpOp_plain rfl rfl ?_
   refine wp_cover (fun K hK => ?_)
   go_simp
   exact hK.out _ _ (HJ.out.put HI.out (by omega) (Nat.le_of_ble_eq_true rfl) (slWn_inj _ (by omega)) (rfl) (fun j u _ _ _ _ h => GWn.keep j u h) (HD.out))
  ·
   have gf7 : GWn d pb m2 p.b r q listed y 7 (x.tmps.getD 12 undef) := hI.good 7 (by omega) (waits_of hi (by rfl))
   have e1 : x.tmps[12]?.getD undef = .slice r.a r.n r.c := ev_tmp gf7
   have gf8 : GWn d pb m2 p.b r q listed y 8 (x.tmps.getD 13 undef) := hI.good 8 (by omega) (waits_of hi (by rfl))
   have e2 : x.tmps[13]?.getD undef = .func (.func 93) #[] #[.pointer (some ⟨pb, 0, none⟩)] := ev_tmp gf8
   have ho := ready_open hi
   have HLZ : Hid (listed.size = 11) := hI.lz
   have HD : Hid (Below W0.heap.size W0 y) := hI.d
   have HJ : Hid (Ig _ _ _ _ _ _ _ _ _) := hI
   have HI : Hid (_ ∈ Region.ready _ _ _) := hi
   have HO : Hid (_ = false) := ho
   clear hi hI ho
   refine wpOp_plain rfl rfl ?_
   refine wp_cover (fun K hK => ?_)
   go_simp
   refine (CW.out y HD.out).mono ?_
   rintro e y' ⟨rfl, hb⟩
   exact hK.out _ _ (HJ.out.put HI.out (by omega) (Nat.le_of_ble_eq_true rfl) (slWn_inj _ (by omega)) (rfl) (fun j u _ _ _ _ h => GWn.keep j u h) (bl_trans HD.out hb))
  ·
   have gf9 : GWn d pb m2 p.b r q listed y 9 (x.tmps.getD 14 undef) := hI.good 9 (by omega) (waits_of hi (by rfl))
   have e1 : x.tmps[14]?.getD undef = .bool q := ev_tmp gf9
   have ho := ready_open hi
   have HLZ : Hid (listed.size = 11) := hI.lz
   have HD : Hid (Below W0.heap.size W0 y) := hI.d
   have HJ : Hid (Ig _ _ _ _ _ _ _ _ _) := hI
   have HI : Hid (_ ∈ Region.ready _ _ _) := hi
   have HO : Hid (_ = false) := ho
   clear hi hI ho
   refine wpOp_plain rfl rfl ?_
   refine wp_cover (fun K hK => ?_)
   go_simp
   exact hK.out _ _ (HJ.out.put HI.out (by omega) (Nat.le_of_ble_eq_true rfl) (slWn_inj _ (by omega)) (rfl) (fun j u _ _ _ _ h => GWn.keep j u h) (HD.out))
end Go.Proofs.YtefkdohkjdopeaaGreatDoor
