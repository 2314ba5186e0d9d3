import Derived.Test.YtgehmpnlfnlboaaGreatDoorJ16
import Derived.Maps.AppendAt
import Derived.Deep.DeepCutAuto
import Derived.StillTactics
/- A tick of the book. -/
namespace Go.Proofs.YtgehmpnlfnlboaaGreatDoor
open Go.RowKit Go.Maps Go.WideMaps
set_option linter.unusedVariables false

theorem noT {b : Bool} (h : b = true → False) : b = false := by
  cases b with
  | false => rfl
  | true => exact (h rfl).elim
def arrP (q : P.PlaceD) (av : Option Addr) (cv : Nat) : Array Value := #[.int .i64 1, .string q.b, .int .i64 q.s, .slice av q.ws.length cv, .string { data := #[] }, .string { data := #[] }, .int .i64 0]
theorem bld1p (q : P.PlaceD) (av : Option Addr) (cv : Nat) (w : World) : Sem.run Tryz.prog (Instr.buildSlice 31 1 #[(0, .agg #[.int .i64 1, .string q.b, .int .i64 q.s, .slice av q.ws.length cv, .string { data := #[] }, .string { data := #[] }, .int .i64 0])]) w = .ok (.slice (some ⟨w.heap.size, 0, none⟩) 1 1) (w.alloc (.cells (arrP q av cv) 48)) := by kernel_rfl
theorem SNge {w : World} {B : Nat} {qs : List P.PlaceD} {cs : List Pc.PcRaw} {v : Value} (h : Sn w B qs cs v) : ∀ k, v.ownBlock = some k → B ≤ k := fun k hk => ((Pc.Sl.of_owns h.o).lt k hk).1
theorem blk_cells {y : World} {u : Nat} {C : Array Value} {t : TypeId} (h : y.heap[u]? = some (.cells C t (0, 0))) : ∀ j v, C.toList[j]? = some v → y.cell? ((⟨u, 0, none⟩ : Addr).add j) = some v := by
  intro j v hj
  rw [Addr.add_mid, Nat.zero_add]
  simp [World.cell?, h]
  simpa using hj
theorem wp_append_own_atP {P : Program} {w : World} {o : Oper} {a : Act} {K : Act → World → Prop} {Q : Exit → Act → World → Prop} (s x : Operand) (t : TypeId)
    (ho : o.op = .call { callee := .builtin .append, args := #[s, x], argTypes := #[t, t] })
    (base : Nat) (e : TypeId) (i : TypeInfo) (z : Value) (size bytes : Nat) (ht : P.underlying t = some (.slice e)) (hi : P.info? e = some i) (hz : i.zero = some z)
    (hsize : i.size = size) (hby : i.bytes = bytes) (hzs : z.cells.size = size) (hsz : 0 < size)
    (v : Value) (n : Nat) (xs : List Value) (hs : a.eval s = v) (hown : w.ownsRow base e size v n xs)
    (ad : Addr) (m c : Nat) (news : List Value) (hx : a.eval x = .slice (some ad) m c) (hl : news.length = m * size) (hnews : ∀ j u, news[j]? = some u → w.cell? (ad.add j) = some u) (h1 : ∀ u ∈ news, u.oneCell' = true)
    (h63 : n + m ≤ maxLen) (hbytes : (n + m) * bytes ≤ 140737488355328) (hbase : base ≤ w.heap.size)
    (h : ∀ v' w', w'.ownsRow base e size v' (n + m) (xs ++ news) → w.grownBy w' v.ownBlock → (v'.ownBlock = v.ownBlock ∨ v'.ownBlock = some w.heap.size) → K (a.put o.dst v') w') : o.wp P a w K Q := by
  obtain ⟨v', w', hr, h2, h3, h4, h5⟩ := run_append_own_at (P := P) w base t o.type e i z size bytes ht hi hz hsize hby hzs hsz v n xs hown ad m c news hl hnews h1 h63 hbytes hbase
  unfold Oper.wp execOp
  simp only [ho, resolve, invoke, builtin, Sem.run_bind, Sem.run_pure, Result.andThen_ok, List.map_toArray, List.map_cons, List.map_nil, hs, hx, hr]
  exact h v' w' h2 h3 h5
theorem pcApp {o : Oper} {a : Act} {Y : World} {K : Act → World → Prop} {Q : Exit → Act → World → Prop} (B : Nat) (s x : Operand)
    (ho : o.op = .call { callee := .builtin .append, args := #[s, x], argTypes := #[31, 31] }) (l : List Pc.PcRaw) (v : Value) {q : P.PlaceD} {av : Option Addr} {cv g : Nat}
    (hs : a.eval s = v) (hown : Y.ownsRow B 48 7 v l.length (Pc.flatR l)) (hB : B ≤ Y.heap.size) (hx : a.eval x = .slice (some ⟨g, 0, none⟩) 1 1) (hc : Y.heap[g]? = some (.cells (arrP q av cv) 48 (0, 0))) (hl : l.length ≤ 1048576)
    (h : ∀ (s' : Value) (w' : World), w'.ownsRow B 48 7 s' (l ++ [toldP q av cv]).length (Pc.flatR (l ++ [toldP q av cv])) → Y.grownBy w' v.ownBlock → (s'.ownBlock = v.ownBlock ∨ s'.ownBlock = some Y.heap.size) → K (a.put o.dst s') w') : o.wp Tryz.prog a Y K Q := by
  obtain ⟨i0, hi, hz0, hz1, hz2⟩ := info_parts Pc.infoR
  refine wp_append_own_atP s x 31 ho B 48 i0 _ 7 96 Tryz.underlying31 hi hz0 hz1 hz2 rfl (by decide) v l.length _ hs hown ⟨g, 0, none⟩ 1 1 (toldP q av cv).cells hx rfl (fun j u hj => blk_cells hc j u hj) (Pc.cellsR_one _) (by unfold maxLen; omega) (by omega) hB ?_
  intro s' w' ho' hg' hat
  refine h s' w' ?_ hg' hat
  rw [List.length_append]
  simpa [Pc.flatR] using ho'
def sl8 : Nat → Nat
  | 0 => 30
  | 1 => 31
  | 2 => 32
  | 3 => 33
  | 4 => 34
  | 5 => 35
  | 6 => 36
  | 7 => 37
  | 8 => 38
  | 9 => 39
  | _ => 0
theorem sl8_inj (i : Nat) (hi : i < 10) : ∀ j, j < 10 → sl8 j = sl8 i → j = i := by
  have h : ∀ a : _root_.Fin 10, ∀ b : _root_.Fin 10, sl8 b.1 = sl8 a.1 → b.1 = a.1 := by decide
  intro j hj e
  exact h ⟨i, hi⟩ ⟨j, hj⟩ e
theorem sl8_far : ∀ j, (j < 30 ∨ 30 + 10 ≤ j) → ∀ i, i < 10 → sl8 i ≠ j := by
  intro j h2 i hi
  match i, hi with
  | 0, _ => show 30 ≠ j; omega
  | 1, _ => show 31 ≠ j; omega
  | 2, _ => show 32 ≠ j; omega
  | 3, _ => show 33 ≠ j; omega
  | 4, _ => show 34 ≠ j; omega
  | 5, _ => show 35 ≠ j; omega
  | 6, _ => show 36 ≠ j; omega
  | 7, _ => show 37 ≠ j; omega
  | 8, _ => show 38 ≠ j; omega
  | 9, _ => show 39 ≠ j; omega
def G8 (sv : Value) (pb Z : Nat) (q : P.PlaceD) (w : World) : Nat → Value → Prop
  | 0, v => v = sv
  | 1, v => v = .pointer (some ⟨pb, 0, none⟩)
  | 2, v => v = .string q.b
  | 3, v => v = .pointer (some ⟨pb, 1, none⟩)
  | 4, v => v = .int .i64 q.s
  | 5, v => v = .pointer (some ⟨pb, 2, none⟩)
  | 6, v => v = .slice q.a q.ws.length q.c
  | 7, v => FrV Z q.ws w v
  | 8, v => ∃ av cv, v = .agg #[.int .i64 1, .string q.b, .int .i64 q.s, .slice av q.ws.length cv, .string { data := #[] }, .string { data := #[] }, .int .i64 0] ∧ W.Sl w (.slice av q.ws.length cv) q.ws Z
  | 9, v => ∃ av cv g, v = .slice (some ⟨g, 0, none⟩) 1 1 ∧ Z ≤ g ∧ g < w.heap.size ∧ w.heap[g]? = some (.cells (arrP q av cv) 48 (0, 0)) ∧ W.Sl w (.slice av q.ws.length cv) q.ws Z
  | _, _ => True
theorem G8.keep {sv : Value} {pb Z : Nat} {q : P.PlaceD} {w w' : World} (hb : Below w.heap.size w w') : ∀ j v, G8 sv pb Z q w j v → G8 sv pb Z q w' j v
  | 0, _, h => h
  | 1, _, h => h
  | 2, _, h => h
  | 3, _, h => h
  | 4, _, h => h
  | 5, _, h => h
  | 6, _, h => h
  | 7, _, h => W.Sl.keep h hb
  | 8, _, ⟨av, cv, h1, h2⟩ => ⟨av, cv, h1, h2.keep hb⟩
  | 9, _, ⟨av, cv, g, h1, h2, h3, h4, h5⟩ => ⟨av, cv, g, h1, h2, Nat.lt_of_lt_of_le h3 hb.size, (hb.block g h3).trans h4, h5.keep hb⟩
  | _ + 10, _, h => h
theorem Sn.low {w : World} {B B' : Nat} {qs : List P.PlaceD} {cs : List Pc.PcRaw} {v : Value} (h : Sn w B qs cs v) (hB : B' ≤ B) : Sn w B' qs cs v := by
  refine ⟨?_, fun j c hc => ?_, h.nr, h.dif⟩
  · obtain ⟨h1, h2 | ⟨g, cap, cur, h3, h4, h5⟩⟩ := h.o
    · exact ⟨h1, Or.inl h2⟩
    · exact ⟨h1, Or.inr ⟨g, cap, cur, h3, Nat.le_trans hB h4, h5⟩⟩
  · obtain ⟨q, h1, h2, h3⟩ := h.el j c hc
    exact ⟨q, h1, h2, sl_lowW h3 hB⟩
theorem row_blk {B : Nat} {ps : List Pr.PlRaw} {qs : List P.PlaceD} {w : World} {a : Option Addr} {c : Nat} (h : OQ B ps w (.slice a ps.length c)) (hp : ps = qs.map Pr.raw) (hl : 0 < ps.length) : ∃ g, a = some ⟨g, 0, none⟩ ∧ g < w.heap.size ∧ Pr.RowsAt w g 0 (qs.map Pr.raw) := by
  rcases Pr.Sl.of_owns h with ⟨h1, h2⟩ | ⟨g, cap, h1, h2, h3, h4, h5⟩
  · rw [h2] at hl; exact absurd hl (by simp)
  · injection h1 with e1 e2 e3
    exact ⟨g, e1, h3, by rw [← hp]; exact h4⟩
theorem Ex.then_below2 {kr : Nat} {w x y : World} (h : Ex kr w x) (hb : Below x.heap.size x y) : Ex kr w y := h.trans (Ex.of_below hb)
theorem book_time {w : World} {d m1 m2 : Nat} {t : Int} {gs : List G.GrantD} {ps : List Pr.PlRaw} (h : Book w d t m1 m2 gs ps) (h1 : d ≠ m1) (h2 : d ≠ m2) (u : Int) : Book (w.setCell ⟨d, 0, none⟩ (.int .i64 u)) d u m1 m2 gs ps := by
  have he : Ex d w (w.setCell ⟨d, 0, none⟩ (.int .i64 u)) := (Ex.refl _ _).set _ _
  obtain ⟨n1, es1, cl1, a1, a2⟩ := h.o1
  obtain ⟨n2, es2, cl2, b1, b2⟩ := h.o2
  refine ⟨fun k => ?_, fun k => by rw [World.frozen?_setCell]; exact h.f k, Nat.lt_of_lt_of_le h.l he.size, ⟨n1, es1, cl1, (he.block m1 (Array.getElem?_eq_some_iff.1 a1).1 (fun e => h1 e.symm)).trans a1, a2⟩, ⟨n2, es2, cl2, (he.block m2 (Array.getElem?_eq_some_iff.1 b1).1 (fun e => h2 e.symm)).trans b1, b2⟩⟩
  by_cases e : k = 0
  · subst e
    have h3 := h.c 0
    rw [World.cell?_setCell_same _ _ _ h3]
    rfl
  · rw [World.cell?_setCell_other _ _ _ _ (fun h' => e (by have := congrArg Addr.off h'; exact this.symm)), h.c k]
    match k, e with
    | 1, _ => rfl
    | 2, _ => rfl
    | _ + 3, _ => rfl

set_option maxRecDepth 4000 in
set_option maxHeartbeats 8000000 in
theorem tick_any (hK2 : Pr.KeysSay) (hS2 : Pr.SortedSay) (d m1 m2 : Nat) (t : Int) (gs : List G.GrantD) (qs0 : List P.PlaceD) (ps : List Pr.PlRaw) (hps : ps = qs0.map Pr.raw) (w : World) (hB : Book w d t m1 m2 gs ps) (hd1 : d ≠ m1) (hd2 : d ≠ m2) (s2 : Pr.Srt ps) (f2 : ∀ r ∈ ps, r.b.size ≤ maxLen) (k2 : ps.length ≤ 1048576) (ht0 : 0 ≤ t) (ht : t < 2000000)
    (hsrc : ∀ y, Ex d w y → ∀ q ∈ qs0, W.Src y q.a q.c q.ws ∧ q.ws.length ≤ 1048576) :
    Calls Tryz.prog 22 #[.pointer (some ⟨d, 0, none⟩)] w fun e w' => ∃ v cs, e = .returned (.tuple #[v, .nilIface]) ∧ cs.length = qs0.length ∧ Sn w' w.heap.size qs0 cs v ∧ Book w' d (t + 2) m1 m2 gs ps ∧ Ex d w w' := by
  have hc0 : w.cell? ⟨d, 0, none⟩ = some (.int .i64 t) := hB.c 0
  have hf0 : w.frozen? ⟨d, 0, none⟩ = false := hB.f 0
  obtain ⟨Y1, hY1⟩ : ∃ Y1, Y1 = w.setCell ⟨d, 0, none⟩ (.int .i64 (t + 2)) := ⟨_, rfl⟩
  have HY1 : Hid (Y1 = w.setCell ⟨d, 0, none⟩ (.int .i64 (t + 2))) := hY1
  have E1 : Hid (Ex d w Y1) := by rw [hY1]; exact (Ex.refl _ _).set _ _
  have HB1 : Hid (Book Y1 d (t + 2) m1 m2 gs ps) := by rw [hY1]; exact book_time hB hd1 hd2 _
  have IQ : Hid (Calls Tryz.prog 44 #[.map (some m2)] Y1 fun e w' => (∃ v, e = .returned v ∧ w'.ownsRow Y1.heap.size 46 3 v ps.length (Pr.flatR ps)) ∧ Below Y1.heap.size Y1 w') := by
    obtain ⟨n, o⟩ := HB1.out.o2
    exact Pr.inOrderO hK2 hS2 m2 n ps Y1 o s2 f2 k2
  have HSR : Hid (∀ y, Ex d w y → ∀ q ∈ qs0, W.Src y q.a q.c q.ws ∧ q.ws.length ≤ 1048576) := hsrc
  have HPS : Hid (ps = qs0.map Pr.raw) := hps
  have hk1 : (w.setCell ⟨d, 0, none⟩ (.int .i64 (t + 2))).cell? ⟨d, 2, none⟩ = some (.map (some m2)) := by rw [← HY1.out]; exact HB1.out.c 2
  have hlen : ps.length = qs0.length := by rw [hps]; exact List.length_map ..
  have HZW : Hid (w.heap.size ≤ Y1.heap.size) := E1.out.size
  clear hK2 hS2 hB s2 f2 hsrc hps hY1
  go_enter Tryz.func22, Tryz.ntmps22
  go_wp2_with fail
  rw [← HY1.out]
  refine IQ.out.mono ?_
  rintro e Y2 ⟨⟨vL, rfl, oL⟩, bL⟩
  obtain ⟨aL, cL, rfl⟩ := (Pr.Sl.of_owns oL).shape
  have OL : Hid (OQ Y1.heap.size ps Y2 (.slice aL ps.length cL)) := oL
  have BL : Hid (Below Y1.heap.size Y1 Y2) := bL
  have E2 : Hid (Ex d w Y2) := E1.out.then_below2 bL
  obtain ⟨Z, hZ⟩ : ∃ Z, Z = Y2.heap.size := ⟨_, rfl⟩
  have HZe : Hid (Z = Y2.heap.size) := hZ
  clear oL bL hZ hc0 hf0 hk1 IQ
  rw [hlen]
  go_wp2_with fail
  go_loopw [4, 26] (fun sv i wx => ∃ (k : Nat) (cs : List Pc.PcRaw), k ≤ qs0.length ∧ i = .int .i64 (k : Int) ∧ Hid (cs.length = k) ∧ Hid (Sn wx Z qs0 cs sv) ∧ Hid (Below Y2.heap.size Y2 wx)) (fun _ i _ => qs0.length - (intOf i).toNat)
  case atStart => exact ⟨0, [], Nat.zero_le _, rfl, rfl, Sn.nil _ _ _, Below.refl _ _⟩
  case round =>
    obtain ⟨k, cs, hk, rfl, HCk, HSN, HBY⟩ := hrel
    by_cases hlt : k < qs0.length
    · have hki : (k : Int) < (qs0.length : Int) := by omega
      obtain ⟨q, hq⟩ : ∃ q, qs0[k]? = some q := ⟨qs0[k], List.getElem?_eq_getElem hlt⟩
      obtain ⟨gL, rfl, hgL, hRL⟩ := row_blk OL.out HPS.out (by rw [hlen]; omega)
      obtain ⟨r0, r1, r2⟩ := pt_row (hRL.keep hgL HBY.out) hq
      have HQ : Hid (qs0[cs.length]? = some q) := by show _ = _; rw [HCk.out]; exact hq
      have HQ0 : Hid (q ∈ qs0) := List.mem_of_getElem? hq
      have HZ : Hid (Z ≤ wr.heap.size) := by show _ ≤ _; rw [HZe.out]; exact HBY.out.size
      have HCL : Hid (cs.length ≤ 1048576) := by show _ ≤ _; rw [HCk.out]; omega
      clear hq hRL
      go_wp2_with fail
      obtain ⟨Wk, hWk⟩ : ∃ Wk, Wk = wr.alloc (.cells #[.string q.b, .int .i64 q.s, .slice q.a q.ws.length q.c] 46) := ⟨_, rfl⟩
      have HWk : Hid (Wk = wr.alloc (.cells #[.string q.b, .int .i64 q.s, .slice q.a q.ws.length q.c] 46)) := hWk
      have BWk : Hid (Below wr.heap.size wr Wk) := by rw [hWk]; exact bl_alloc (Below.refl _ _) _
      have L3 : Hid (∀ y, Below Wk.heap.size Wk y → ∀ j, y.cell? ⟨wr.heap.size, j, none⟩ = (#[.string q.b, .int .i64 q.s, .slice q.a q.ws.length q.c] : Array Value)[j]?) := by
        intro y hb j
        rw [hWk] at hb
        rw [box_keep hb j]
        simp [go_sem]
      have FR : Hid (∀ y, Below Wk.heap.size Wk y → Calls Tryz.prog 45 #[.slice q.a q.ws.length q.c] y fun e w' => (∃ v, e = .returned v ∧ W.Sl w' v q.ws y.heap.size) ∧ Below y.heap.size y w') := fun y hb => by
        obtain ⟨h1, h2⟩ := HSR.out y (E2.out.then_below2 (bl_trans HBY.out (bl_trans BWk.out hb))) q HQ0.out
        exact W.fresh_src q.a q.c q.ws y h1 h2
      clear hWk r0 r1 r2
      rw [← HWk.out]
      obtain ⟨sv, hsv⟩ : ∃ sv, sv = u4 := ⟨_, rfl⟩
      subst hsv
      refine wp_region_any (by kernel_rfl) ?_
      refine reg_invU sl8 10 40 4 (G8 sv wr.heap.size Wk.heap.size q) (fun y => Below Wk.heap.size Wk y) (fun u y => ∃ av cv, Sn y Z qs0 (cs ++ [toldP q av cv]) u ∧ Below Y2.heap.size Y2 y) (fun u y => ∃ av cv, Sn y Z qs0 (cs ++ [toldP q av cv]) u ∧ Below Y2.heap.size Y2 y) (by decide) rfl (bl_drew (Below.refl _ _)) ?done8 ?step8
      case done8 =>
        intro a y hdf hsz hout hE
        obtain ⟨av, cv, hS, hb⟩ := hE
        obtain ⟨sa, sn, hv⟩ := (Pc.Sl.of_owns hS.o).shape
        obtain ⟨l', hl', ha⟩ := frameP_two (lo := 30) (n := 11) (se := 4) hdf hsz (Nat.le_of_ble_eq_true rfl) (Nat.le_of_ble_eq_true rfl) (fun j hj1 hj2 => hout j (fun i hi => sl8_far j (by omega) i hi) (by omega) hj1)
        rw [hv] at ha hS
        have HS : Hid (Sn y Z qs0 (cs ++ [toldP q av cv]) (.slice sa (cs ++ [toldP q av cv]).length sn)) := hS
        have HB9 : Hid (Below Y2.heap.size Y2 y) := hb
        generalize hsl : Value.slice sa (cs ++ [toldP q av cv]).length sn = sv' at ha HS
        obtain ⟨sa', sn', nn', rfl⟩ : ∃ a n m, sv' = .slice a n m := ⟨_, _, _, hsl.symm⟩
        clear hb hdf hsz hout hv hS hsl
        subst ha
        obtain ⟨x0, m0, rfl, hm0⟩ := lenP_succ hl'
        obtain ⟨x1, m1, rfl, hm1⟩ := lenP_succ hm0
        obtain ⟨x2, m2, rfl, hm2⟩ := lenP_succ hm1
        obtain ⟨x3, m3, rfl, hm3⟩ := lenP_succ hm2
        obtain ⟨x4, m4, rfl, hm4⟩ := lenP_succ hm3
        obtain ⟨x5, m5, rfl, hm5⟩ := lenP_succ hm4
        obtain ⟨x6, m6, rfl, hm6⟩ := lenP_succ hm5
        obtain ⟨x7, m7, rfl, hm7⟩ := lenP_succ hm6
        obtain ⟨x8, m8, rfl, hm8⟩ := lenP_succ hm7
        obtain ⟨x9, m9, rfl, hm9⟩ := lenP_succ hm8
        obtain ⟨x10, m10, rfl, hm10⟩ := lenP_succ hm9
        obtain rfl := lenP_zero hm10
        simp only [List.setIfInBounds_toArray, List.set_cons_succ, List.set_cons_zero, List.take_succ_cons, List.take_zero, List.drop_succ_cons, List.drop_zero, List.cons_append, List.nil_append, Nat.reduceAdd]
        go_wp2
        exact ⟨⟨k + 1, cs ++ [toldP q av cv], by omega, by go_num, (by show (cs ++ [_]).length = _; rw [List.length_append, HCk.out]; rfl), HS.out, HB9.out⟩, by simp [intOf]; omega⟩
      case step8 =>
        intro listed x y i hI hi hlt8
        obtain rfl | rfl | rfl | rfl | rfl | rfl | rfl | rfl | rfl | rfl | rfl | rfl : i = 0 ∨ i = 1 ∨ i = 2 ∨ i = 3 ∨ i = 4 ∨ i = 5 ∨ i = 6 ∨ i = 7 ∨ i = 8 ∨ i = 9 ∨ i = 10 ∨ i = 11 := by omega
        · have ho := ready_open hi
          have hn : listed.getD 10 false = false := noT (fun h => openT ho (hI.tr 10 0 (by rfl) h))
          have e1 : x.tmps[4]?.getD undef = sv := ev_tmp (hI.out 4 (fun i hi => sl8_far 4 (by omega) i hi) (by omega) (fun _ => noT (fun h => by rw [hI.tr 11 10 (by rfl) h] at hn; cases hn)))
          have HD : Hid (Below Wk.heap.size Wk y) := hI.d hn
          have HJ : Hid (Iu _ _ _ _ _ _ _ _ _ _ _ _ _) := hI
          have HI : Hid (_ ∈ Region.ready _ _ _) := hi
          clear hi hI
          refine wpOp_plain rfl rfl ?_
          refine wp_cover (fun K hK => ?_)
          go_simp
          exact hK.out _ _ (HJ.out.same HI.out (by omega) hn (by rfl) (Nat.le_of_ble_eq_true rfl) (sl8_inj _ (by omega)) (rfl))
        · have ho := ready_open hi
          have hn : listed.getD 10 false = false := noT (fun h => openT ho (hI.tr 2 1 (by rfl) (hI.tr 8 2 (by rfl) (hI.tr 9 8 (by rfl) (hI.tr 10 9 (by rfl) h)))))
          have e1 : x.tmps[6]?.getD undef = .pointer (some ⟨wr.heap.size, 0, none⟩) := ev_tmp (hI.out 6 (fun i hi => sl8_far 6 (by omega) i hi) (by omega) (fun e => absurd e (by omega)))
          have HD : Hid (Below Wk.heap.size Wk y) := hI.d hn
          have HJ : Hid (Iu _ _ _ _ _ _ _ _ _ _ _ _ _) := hI
          have HI : Hid (_ ∈ Region.ready _ _ _) := hi
          clear hi hI
          refine wpOp_plain rfl rfl ?_
          refine wp_cover (fun K hK => ?_)
          go_simp
          exact hK.out _ _ (HJ.out.same HI.out (by omega) hn (by rfl) (Nat.le_of_ble_eq_true rfl) (sl8_inj _ (by omega)) (rfl))
        · have ho := ready_open hi
          have hn : listed.getD 10 false = false := noT (fun h => openT ho (hI.tr 8 2 (by rfl) (hI.tr 9 8 (by rfl) (hI.tr 10 9 (by rfl) h))))
          have gf1 : G8 sv wr.heap.size Wk.heap.size q y 1 (x.tmps.getD 31 undef) := hI.good 1 (by omega) (waits_of hi (by rfl)) hn
          have e1 : x.tmps[31]?.getD undef = .pointer (some ⟨wr.heap.size, 0, none⟩) := ev_tmp gf1
          have k1 : y.cell? ⟨wr.heap.size, 0, none⟩ = some (.string q.b) := L3.out y (hI.d hn) 0
          have HD : Hid (Below Wk.heap.size Wk y) := hI.d hn
          have HJ : Hid (Iu _ _ _ _ _ _ _ _ _ _ _ _ _) := hI
          have HI : Hid (_ ∈ Region.ready _ _ _) := hi
          clear hi hI
          refine wpOp_plain rfl rfl ?_
          refine wp_cover (fun K hK => ?_)
          go_simp
          exact hK.out _ _ (HJ.out.same HI.out (by omega) hn (by rfl) (Nat.le_of_ble_eq_true rfl) (sl8_inj _ (by omega)) (rfl))
        · have ho := ready_open hi
          have hn : listed.getD 10 false = false := noT (fun h => openT ho (hI.tr 4 3 (by rfl) (hI.tr 8 4 (by rfl) (hI.tr 9 8 (by rfl) (hI.tr 10 9 (by rfl) h)))))
          have e1 : x.tmps[6]?.getD undef = .pointer (some ⟨wr.heap.size, 0, none⟩) := ev_tmp (hI.out 6 (fun i hi => sl8_far 6 (by omega) i hi) (by omega) (fun e => absurd e (by omega)))
          have HD : Hid (Below Wk.heap.size Wk y) := hI.d hn
          have HJ : Hid (Iu _ _ _ _ _ _ _ _ _ _ _ _ _) := hI
          have HI : Hid (_ ∈ Region.ready _ _ _) := hi
          clear hi hI
          refine wpOp_plain rfl rfl ?_
          refine wp_cover (fun K hK => ?_)
          go_simp
          exact hK.out _ _ (HJ.out.same HI.out (by omega) hn (by rfl) (Nat.le_of_ble_eq_true rfl) (sl8_inj _ (by omega)) (rfl))
        · have ho := ready_open hi
          have hn : listed.getD 10 false = false := noT (fun h => openT ho (hI.tr 8 4 (by rfl) (hI.tr 9 8 (by rfl) (hI.tr 10 9 (by rfl) h))))
          have gf3 : G8 sv wr.heap.size Wk.heap.size q y 3 (x.tmps.getD 33 undef) := hI.good 3 (by omega) (waits_of hi (by rfl)) hn
          have e1 : x.tmps[33]?.getD undef = .pointer (some ⟨wr.heap.size, 1, none⟩) := ev_tmp gf3
          have k1 : y.cell? ⟨wr.heap.size, 1, none⟩ = some (.int .i64 q.s) := L3.out y (hI.d hn) 1
          have HD : Hid (Below Wk.heap.size Wk y) := hI.d hn
          have HJ : Hid (Iu _ _ _ _ _ _ _ _ _ _ _ _ _) := hI
          have HI : Hid (_ ∈ Region.ready _ _ _) := hi
          clear hi hI
          refine wpOp_plain rfl rfl ?_
          refine wp_cover (fun K hK => ?_)
          go_simp
          exact hK.out _ _ (HJ.out.same HI.out (by omega) hn (by rfl) (Nat.le_of_ble_eq_true rfl) (sl8_inj _ (by omega)) (rfl))
        · have ho := ready_open hi
          have hn : listed.getD 10 false = false := noT (fun h => openT ho (hI.tr 6 5 (by rfl) (hI.tr 7 6 (by rfl) (hI.tr 8 7 (by rfl) (hI.tr 9 8 (by rfl) (hI.tr 10 9 (by rfl) h))))))
          have e1 : x.tmps[6]?.getD undef = .pointer (some ⟨wr.heap.size, 0, none⟩) := ev_tmp (hI.out 6 (fun i hi => sl8_far 6 (by omega) i hi) (by omega) (fun e => absurd e (by omega)))
          have HD : Hid (Below Wk.heap.size Wk y) := hI.d hn
          have HJ : Hid (Iu _ _ _ _ _ _ _ _ _ _ _ _ _) := hI
          have HI : Hid (_ ∈ Region.ready _ _ _) := hi
          clear hi hI
          refine wpOp_plain rfl rfl ?_
          refine wp_cover (fun K hK => ?_)
          go_simp
          exact hK.out _ _ (HJ.out.same HI.out (by omega) hn (by rfl) (Nat.le_of_ble_eq_true rfl) (sl8_inj _ (by omega)) (rfl))
        · have ho := ready_open hi
          have hn : listed.getD 10 false = false := noT (fun h => openT ho (hI.tr 7 6 (by rfl) (hI.tr 8 7 (by rfl) (hI.tr 9 8 (by rfl) (hI.tr 10 9 (by rfl) h)))))
          have gf5 : G8 sv wr.heap.size Wk.heap.size q y 5 (x.tmps.getD 35 undef) := hI.good 5 (by omega) (waits_of hi (by rfl)) hn
          have e1 : x.tmps[35]?.getD undef = .pointer (some ⟨wr.heap.size, 2, none⟩) := ev_tmp gf5
          have k1 : y.cell? ⟨wr.heap.size, 2, none⟩ = some (.slice q.a q.ws.length q.c) := L3.out y (hI.d hn) 2
          have HD : Hid (Below Wk.heap.size Wk y) := hI.d hn
          have HJ : Hid (Iu _ _ _ _ _ _ _ _ _ _ _ _ _) := hI
          have HI : Hid (_ ∈ Region.ready _ _ _) := hi
          clear hi hI
          refine wpOp_plain rfl rfl ?_
          refine wp_cover (fun K hK => ?_)
          go_simp
          exact hK.out _ _ (HJ.out.same HI.out (by omega) hn (by rfl) (Nat.le_of_ble_eq_true rfl) (sl8_inj _ (by omega)) (rfl))
        · have ho := ready_open hi
          have hn : listed.getD 10 false = false := noT (fun h => openT ho (hI.tr 8 7 (by rfl) (hI.tr 9 8 (by rfl) (hI.tr 10 9 (by rfl) h))))
          have gf6 : G8 sv wr.heap.size Wk.heap.size q y 6 (x.tmps.getD 36 undef) := hI.good 6 (by omega) (waits_of hi (by rfl)) hn
          have e1 : x.tmps[36]?.getD undef = .slice q.a q.ws.length q.c := ev_tmp gf6
          have HD : Hid (Below Wk.heap.size Wk y) := hI.d hn
          have HJ : Hid (Iu _ _ _ _ _ _ _ _ _ _ _ _ _) := hI
          have HI : Hid (_ ∈ Region.ready _ _ _) := hi
          clear hi hI
          refine wpOp_plain rfl rfl ?_
          refine wp_cover (fun K hK => ?_)
          go_simp
          refine (FR.out y HD.out).mono ?_
          rintro e y' ⟨⟨v9, rfl, o9⟩, b9⟩
          exact hK.out _ _ (HJ.out.put HI.out (by omega) hn (by rfl) (Nat.le_of_ble_eq_true rfl) (sl8_inj _ (by omega)) (sl_lowW o9 HD.out.size) (fun j u _ h => G8.keep b9 j u h) (bl_trans HD.out b9))
        · have ho := ready_open hi
          have hn : listed.getD 10 false = false := noT (fun h => openT ho (hI.tr 9 8 (by rfl) (hI.tr 10 9 (by rfl) h)))
          have gf2 : G8 sv wr.heap.size Wk.heap.size q y 2 (x.tmps.getD 32 undef) := hI.good 2 (by omega) (waits_of hi (by rfl)) hn
          have gf4 : G8 sv wr.heap.size Wk.heap.size q y 4 (x.tmps.getD 34 undef) := hI.good 4 (by omega) (waits_of hi (by rfl)) hn
          have gf7 : G8 sv wr.heap.size Wk.heap.size q y 7 (x.tmps.getD 37 undef) := hI.good 7 (by omega) (waits_of hi (by rfl)) hn
          have e1 : x.tmps[32]?.getD undef = .string q.b := ev_tmp gf2
          have e2 : x.tmps[34]?.getD undef = .int .i64 q.s := ev_tmp gf4
          have o5 : W.Sl y _ q.ws Wk.heap.size := gf7
          obtain ⟨av, cv, hv⟩ := W.Sl.shape o5
          have e3 : x.tmps[37]?.getD undef = _ := ev_tmp hv
          rw [hv] at o5
          have O5 : Hid (W.Sl y (.slice av q.ws.length cv) q.ws Wk.heap.size) := o5
          clear hv o5 gf7
          have HD : Hid (Below Wk.heap.size Wk y) := hI.d hn
          have HJ : Hid (Iu _ _ _ _ _ _ _ _ _ _ _ _ _) := hI
          have HI : Hid (_ ∈ Region.ready _ _ _) := hi
          clear hi hI
          refine wpOp_plain rfl rfl ?_
          refine wp_cover (fun K hK => ?_)
          go_simp
          exact hK.out _ _ (HJ.out.same HI.out (by omega) hn (by rfl) (Nat.le_of_ble_eq_true rfl) (sl8_inj _ (by omega)) (⟨av, cv, rfl, O5.out⟩))
        · have ho := ready_open hi
          have hn : listed.getD 10 false = false := noT (fun h => openT ho (hI.tr 10 9 (by rfl) h))
          have gf8 : G8 sv wr.heap.size Wk.heap.size q y 8 (x.tmps.getD 38 undef) := hI.good 8 (by omega) (waits_of hi (by rfl)) hn
          obtain ⟨av, cv, hv, o5⟩ := gf8
          have e1 : x.tmps[38]?.getD undef = _ := ev_tmp hv
          have O5 : Hid (W.Sl y (.slice av q.ws.length cv) q.ws Wk.heap.size) := o5
          have hb := bld1p q av cv
          clear hv o5
          have HD : Hid (Below Wk.heap.size Wk y) := hI.d hn
          have HJ : Hid (Iu _ _ _ _ _ _ _ _ _ _ _ _ _) := hI
          have HI : Hid (_ ∈ Region.ready _ _ _) := hi
          clear hi hI
          refine wpOp_plain rfl rfl ?_
          refine wp_cover (fun K hK => ?_)
          go_simp
          have hbl : Below y.heap.size y (y.alloc (.cells (arrP q av cv) 48)) := bl_alloc (Below.refl _ _) _
          exact hK.out _ _ (HJ.out.put HI.out (by omega) hn (by rfl) (Nat.le_of_ble_eq_true rfl) (sl8_inj _ (by omega)) (⟨av, cv, y.heap.size, rfl, HD.out.size, by simp, heap_alloc_newL y _, O5.out.keep hbl⟩) (fun j u _ h => G8.keep hbl j u h) (bl_trans HD.out hbl))
        · have ho := ready_open hi
          have hn : listed.getD 10 false = false := noT (fun h => openT ho h)
          have gf0 : G8 sv wr.heap.size Wk.heap.size q y 0 (x.tmps.getD 30 undef) := hI.good 0 (by omega) (waits_of hi (by rfl)) hn
          have gf9 : G8 sv wr.heap.size Wk.heap.size q y 9 (x.tmps.getD 39 undef) := hI.good 9 (by omega) (waits_of hi (by rfl)) hn
          obtain ⟨av, cv, g9, hv, z1, z2, hc9, o5⟩ := gf9
          have e1 : x.tmps.getD 30 undef = sv := gf0
          have e2 : x.tmps.getD 39 undef = .slice (some ⟨g9, 0, none⟩) 1 1 := hv
          have HD : Hid (Below Wk.heap.size Wk y) := hI.d hn
          have HJ : Hid (Iu _ _ _ _ _ _ _ _ _ _ _ _ _) := hI
          have HI : Hid (_ ∈ Region.ready _ _ _) := hi
          have SY : Sn y Z qs0 cs sv := (HSN.out.keep (bl_trans BWk.out HD.out))
          clear hi hI
          refine wpOp_plain rfl rfl ?_
          refine wp_cover (fun K hK => ?_)
          refine pcApp Z (.tmp 30) (.tmp 39) rfl cs sv e1 SY.o (by have := HZ.out; have := BWk.out.size; have := HD.out.size; omega) e2 hc9 (by have := HCL.out; omega) ?_
          intro s' w' o1 g1 hat
          exact hK.out _ _ (HJ.out.app HI.out (by rfl) (Nat.le_of_ble_eq_true rfl) ⟨av, cv, Sn.app HSN.out HZ.out (bl_trans BWk.out HD.out) HQ.out (sl_lowW o5 BWk.out.size) g1 o1 hat, Below.grown (row := sv.ownBlock) (bl_trans HBY.out (bl_trans BWk.out HD.out)) g1 (bl_trans HBY.out (bl_trans BWk.out HD.out)).size (fun k hk => by have h1 := SNge HSN.out k hk; have h2 : Z = Y2.heap.size := HZe.out; omega)⟩)
        · have hl10 := waits_of hi (i := 11) (j := 10) (by rfl)
          have ho := ready_open hi
          have gA := hI.a1 hl10 (noT (fun h => openT ho h))
          obtain ⟨av, cv, hS, hBl⟩ := gA
          obtain ⟨sa, sn, hv⟩ := (Pc.Sl.of_owns hS.o).shape
          have e1 : x.tmps[40]?.getD undef = _ := ev_tmp hv
          have OS : Hid (Sn y Z qs0 (cs ++ [toldP q av cv]) (x.tmps.getD 40 undef)) := hS
          have OB : Hid (Below Y2.heap.size Y2 y) := hBl
          have HJ : Hid (Iu _ _ _ _ _ _ _ _ _ _ _ _ _) := hI
          have HI : Hid (_ ∈ Region.ready _ _ _) := hi
          have HV : Hid _ := hv
          clear hi hI hS hBl hv
          refine wpOp_plain rfl rfl ?_
          refine wp_cover (fun K hK => ?_)
          go_simp
          exact hK.out _ _ (HJ.out.last HI.out (by rfl) (Nat.le_of_ble_eq_true rfl) ⟨av, cv, by have h := OS.out; rw [HV.out, List.length_append] at h; exact h, OB.out⟩)
    · have hk' : k = qs0.length := by omega
      go_wp2_with fail
      refine bodyPost_ret (v := .tuple #[u4, .nilIface]) (by simp [results, Tryz.results22, go_sem]) rfl ⟨u4, cs, rfl, by rw [HCk.out, hk'], Sn.low HSN.out (by have h : Z = Y2.heap.size := HZe.out; have := E2.out.size; omega), (HB1.out.keep BL.out).keep HBY.out, E2.out.then_below2 HBY.out⟩
end Go.Proofs.YtgehmpnlfnlboaaGreatDoor
