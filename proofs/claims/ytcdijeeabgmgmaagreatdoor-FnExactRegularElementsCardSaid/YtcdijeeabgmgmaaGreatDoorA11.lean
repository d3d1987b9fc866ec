/- RegularElements: the model, the program's side. -/
import Derived.Deep.MidRow
import Derived.Test.YtcdijeeabgmgmaaGreatDoorA5
import Derived.Test.YtcdijeeabgmgmaaGreatDoorA7
import Derived.Test.YtcdijeeabgmgmaaGreatDoorSm
import Derived.Test.YtcdijeeabgmgmaaGreatDoorBts
import Derived.Test.YtcdijeeabgmgmaaGreatDoorTwo
import Derived.Test.YtcdijeeabgmgmaaGreatDoorTkt
import Derived.Test.YtcdijeeabgmgmaaGreatDoorCm
namespace Go.Proofs.YtcdijeeabgmgmaaGreatDoor
open Go.RowKit Go.Shelf

attribute [local go_sem] Oper.semAt_some

noncomputable def yRegularElements0 (t : List (List Int)) (m n : Int) (fs : List Int) : List Int := if c10 t m n fs = 0 then selI (rgB t m.toNat fs) t.length else []
noncomputable def qRegularElements1 (t : List (List Int)) (m n : Int) (fs : List Int) : Int := c10 t m n fs
section
variable {t : List (List Int)} {m n : Int} {fs : List Int}
theorem re_yes {M : Nat} (h : c10 t (M : Int) n fs = 0) : yRegularElements0 t (M : Int) n fs = selI (rgB t M fs) t.length ∧ qRegularElements1 t (M : Int) n fs = 0 := by simp [yRegularElements0, qRegularElements1, h]
theorem re_no (h : c10 t m n fs ≠ 0) : yRegularElements0 t m n fs = [] ∧ qRegularElements1 t m n fs = c10 t m n fs := by simp [yRegularElements0, qRegularElements1, h]
theorem regularElements_small0 (t : List (List Int)) (m n : Int) (fs : List Int) : (yRegularElements0 t m n fs).length ≤ 1048576 := by
  by_cases h : c10 t m n fs = 0
  · obtain ⟨M, rfl, -, hf⟩ := c10_yes h
    have h8 := hf.m.g.n8
    have hl : (selI (rgB t M fs) t.length).length ≤ t.length := selI_len
    rw [(re_yes h).1]
    omega
  · rw [(re_no h).1]
    simp
end

/-- A row of a square. -/
def sqR (N : Nat) (V : Nat → Nat → Int) (k : Nat) : List Value := (List.range 8).map fun j => .int .i64 (if k < N ∧ j < N then V k j else 0)
theorem sqR_get {N k j : Nat} {V : Nat → Nat → Int} (h : j < 8) : (sqR N V k).toArray[j]? = some (.int .i64 (if k < N ∧ j < N then V k j else 0)) := by simp [sqR, h]
theorem sq_range {W : World} {D N k : Nat} {T : TypeId} {V : Nat → Nat → Int} (h : Has W D T (sqA N V)) (hk : k < 8) : W.rangeAt D (k * 8) (sqR N V k) := fun j v hv => by
  have hj : j < 8 := by
    have := (List.getElem?_eq_some_iff.1 hv).1
    simpa [sqR] using this
  have e := sqR_get (N := N) (k := k) (V := V) hj
  simp only [List.getElem?_toArray] at e
  rw [e] at hv
  rw [h.cell, sqA, tab_get (by omega), show (k * 8 + j) / 8 = k by omega, show (k * 8 + j) % 8 = j by omega]
  exact hv
theorem info8 : (Tryz.prog.info? 107).map (·.size) = some 8 := by kernel_rfl
/-- A piece of code that does not panic is walked alone. -/
theorem wp_calm {P : Program} {c : Code} {K : Act → World → Prop} {Q : Exit → Act → World → Prop} {a : Act} {w : World} (h : c.wp P (Exit.then K fun _ _ _ => False) a w) : c.wp P (Exit.then K Q) a w :=
  Go.wp_mono h fun e a w q => by cases e <;> first | exact q | exact q.elim
theorem Only.row (w : World) (g : Nat) (cs : Array Value) : Only g (g + 1) w (w.setRow g cs) := by
  exact ⟨below_setRow (Below.refl g w) (Nat.le_refl _) cs, fun k hk _ => setRow_other w g k cs (by omega)⟩

set_option maxRecDepth 100000 in
set_option maxHeartbeats 8000000 in
theorem regularSet_any (B0 B2 : Option Addr) (t : List (List Int)) (M : Nat) (fs : List Int) (d0 d2 : Nat) (w : World) (hR : RwsW w B0 t) (hF : IntsW w B2 fs) (h : FacF t M fs) :
    Calls Tryz.prog 38 #[.agg #[.slice B0 t.length d0, .int .i64 (M : Int), .int .i64 2, .slice B2 fs.length d2]] w fun e w' => e = .returned (.int .u64 (pset (rgB t M fs) (List.finRange t.length) : Int)) ∧ Ex w w' := by
  have e0 : Ex w (w.alloc (.cells #[.slice B0 t.length d0, .int .i64 (M : Int), .int .i64 2, .slice B2 fs.length d2] 62)) := (Ex.refl w).alloc _
  have b0 : Has (w.alloc (.cells #[.slice B0 t.length d0, .int .i64 (M : Int), .int .i64 2, .slice B2 fs.length d2] 62)) (w.heap.size) 62 #[.slice B0 t.length d0, .int .i64 (M : Int), .int .i64 2, .slice B2 fs.length d2] := (Has.newAt (w := w) (e := 62) (cs := #[.slice B0 t.length d0, .int .i64 (M : Int), .int .i64 2, .slice B2 fs.length d2]) (k := w.heap.size) (by simp))
  have hn8 := h.m.g.n8
  have HFO := Lib.hid (fun W (he : Ex w W) => fsForm_any B0 B2 t M fs d0 d2 W (hR.ex he) (hF.ex he) h)
  have HFW : Hid (∀ W, Ex w W → Calls Tryz.prog 73 #[.agg #[.slice B0 t.length d0], .agg #[.int .i64 0, .int .i64 0, .int .i64 0, .int .i64 0, .int .i64 0, .int .i64 0, .int .i64 0, .int .i64 0, .int .i64 0, .int .i64 0, .int .i64 0, .int .i64 0, .int .i64 0, .int .i64 0, .int .i64 0, .int .i64 0, .int .i64 0, .int .i64 0, .int .i64 0, .int .i64 0, .int .i64 0, .int .i64 0, .int .i64 0, .int .i64 0, .int .i64 0, .int .i64 0, .int .i64 0, .int .i64 0, .int .i64 0, .int .i64 0, .int .i64 0, .int .i64 0, .int .i64 0, .int .i64 0, .int .i64 0, .int .i64 0, .int .i64 0, .int .i64 0, .int .i64 0, .int .i64 0, .int .i64 0, .int .i64 0, .int .i64 0, .int .i64 0, .int .i64 0, .int .i64 0, .int .i64 0, .int .i64 0, .int .i64 0, .int .i64 0, .int .i64 0, .int .i64 0, .int .i64 0, .int .i64 0, .int .i64 0, .int .i64 0, .int .i64 0, .int .i64 0, .int .i64 0, .int .i64 0, .int .i64 0, .int .i64 0, .int .i64 0, .int .i64 0]] W fun e w' => e = .returned (.agg (sqA t.length (zF t))) ∧ Ex W w') := Lib.hid (fun W he => by
    have hh := formWith_any B0 t (fun _ _ => 0) d0 W (hR.ex he) h.m.g
    rw [← sqA_zero, ← sqZ] at hh
    exact hh)
  have HEQ := Lib.hid (fun k (hk : k < t.length) w => (by
    have he := eq_row 9998 (fun j => if k < t.length ∧ j < t.length then fF t M fs k j else 0) (fun j => if k < t.length ∧ j < t.length then zF t k j else 0) (sqR t.length (fF t M fs) k).toArray (sqR t.length (zF t) k).toArray w (fun j hj => sqR_get hj) (fun j hj => sqR_get hj)
    rw [show ((List.range 8).all fun j => (if k < t.length ∧ j < t.length then fF t M fs k j else 0) == (if k < t.length ∧ j < t.length then zF t k j else 0)) = rgB t M fs k from by
      rw [Bool.eq_iff_iff, rgB_iff, List.all_eq_true]
      constructor
      · intro hh y hy
        have := hh y (List.mem_range.2 (by omega))
        rw [if_pos ⟨hk, hy⟩, if_pos ⟨hk, hy⟩] at this
        simpa using this
      · intro hh j hj
        by_cases hc : k < t.length ∧ j < t.length
        · rw [if_pos hc, if_pos hc, hh j hc.2]
          simp
        · rw [if_neg hc, if_neg hc]
          rfl] at he
    exact he : (Op.equalIn 10000 107 (.agg (sqR t.length (fF t M fs) k).toArray) (.agg (sqR t.length (zF t) k).toArray)).run Tryz.prog w = .ok (rgB t M fs k) w))
  have HK := Lib.hid (fun (W' : World) (he : Ex (w.alloc (.cells #[.slice B0 t.length d0, .int .i64 (M : Int), .int .i64 2, .slice B2 fs.length d2] 62)) W') => And.intro ((b0.ex he).cell 0) (And.intro ((b0.ex he).cell 1) (And.intro ((b0.ex he).cell 2) ((b0.ex he).cell 3))))
  have HE0 := Lib.hid e0
  have HB0 := Lib.hid b0
  obtain ⟨P, hP⟩ : ∃ P, rgB t M fs = P := ⟨_, rfl⟩
  obtain ⟨F, hFe⟩ : ∃ F, fF t M fs = F := ⟨_, rfl⟩
  obtain ⟨G, hGe⟩ : ∃ G, zF t = G := ⟨_, rfl⟩
  obtain ⟨N, hN⟩ : ∃ N, t.length = N := ⟨_, rfl⟩
  rw [hP, hFe, hGe, hN] at HEQ
  rw [hFe, hN] at HFO
  rw [hGe, hN] at HFW
  rw [hN] at HK HE0 HB0 hn8
  rw [hP, hN]
  clear hR hF h b0 e0 hP hFe hGe hN
  refine (callsIn_wide (n := 20)).1 ?_
  refine callsIn_of_wp_marks Tryz.func38 rfl trivial ?_ rfl
  simp only [Tryz.ntmps38, List.size_toArray, List.length_cons, List.length_nil, Nat.reduceAdd, Nat.reduceSub, Array.replicate_succ, Array.replicate_zero, List.push_toArray, List.append_toArray, List.nil_append, List.cons_append]
  refine wpIn_wide.2 ?_
  go_wp2_with fail
  generalize w.alloc (.cells #[.slice B0 N d0, .int .i64 (M : Int), .int .i64 2, .slice B2 fs.length d2] 62) = W0 at *
  have hC0 := HK.out _ (Ex.refl W0).drew
  refine wp_calm ?_
  refine Late.region (C := fun w' => w'.cell? ⟨w.heap.size, 0, none⟩ = some (.slice B0 N d0) ∧ w'.cell? ⟨w.heap.size, 1, none⟩ = some (.int .i64 (M : Int)) ∧ w'.cell? ⟨w.heap.size, 2, none⟩ = some (.int .i64 2) ∧ w'.cell? ⟨w.heap.size, 3, none⟩ = some (.slice B2 fs.length d2)) (fun _ => true) (by kernel_rfl) hC0 (fun hC => ?_)
  refine Late.take (i := 0) (oi := _) (v := ?_) rfl (by kernel_rfl) (by kernel_rfl) (by kernel_rfl) (by kernel_rfl) (fun _ _ _ h => h) (Or.inl ⟨by rfl, ?_⟩) hC ?_
  rotate_left
  · (intro w hSw; (try dsimp only at hSw); go_simp; first | done | with_reducible rfl)
  simp only [Act.put]
  refine Late.take (i := 2) (oi := _) (v := ?_) rfl (by kernel_rfl) (by kernel_rfl) (by kernel_rfl) (by kernel_rfl) (fun _ _ _ h => h) (Or.inl ⟨by rfl, ?_⟩) hC ?_
  rotate_left
  · (intro w hSw; (try dsimp only at hSw); go_simp; first | done | with_reducible rfl)
  simp only [Act.put]
  refine Late.take (i := 3) (oi := _) (v := ?_) rfl (by kernel_rfl) (by kernel_rfl) (by kernel_rfl) (by kernel_rfl) (fun _ _ _ h => h) (Or.inl ⟨by rfl, ?_⟩) hC ?_
  rotate_left
  · (intro w hSw; (try dsimp only at hSw); go_simp; first | done | with_reducible rfl)
  simp only [Act.put]
  refine Late.take (i := 4) (oi := _) (v := ?_) rfl (by kernel_rfl) (by kernel_rfl) (by kernel_rfl) (by kernel_rfl) (fun _ _ _ h => h) (Or.inl ⟨by rfl, ?_⟩) hC ?_
  rotate_left
  · (intro w hSw; (try dsimp only at hSw); go_simp; first | done | with_reducible rfl)
  simp only [Act.put]
  clear hC hC0
  refine late_start (SS := fun (a0 : Act) (ds : Array Bool) (a : Act) (w' : World) => ∃ (v8 v12 v3 v4 : Value) (D E : Nat), a = ((((a0.put (some 8) v8).put (some 12) v12).put (some 3) v3).put (some 4) v4) ∧ (ds.getD 0 true = true ∧ ds.getD 2 true = true ∧ ds.getD 3 true = true ∧ ds.getD 4 true = true) ∧ Ex W0 w' ∧ (ds.getD 1 true = true → v8 = .agg (sqA N F)) ∧ (ds.getD 5 true = true → v12 = .agg (sqA N G)) ∧
    TwoR W0.heap.size 109 109 #[.int .i64 0, .int .i64 0, .int .i64 0, .int .i64 0, .int .i64 0, .int .i64 0, .int .i64 0, .int .i64 0, .int .i64 0, .int .i64 0, .int .i64 0, .int .i64 0, .int .i64 0, .int .i64 0, .int .i64 0, .int .i64 0, .int .i64 0, .int .i64 0, .int .i64 0, .int .i64 0, .int .i64 0, .int .i64 0, .int .i64 0, .int .i64 0, .int .i64 0, .int .i64 0, .int .i64 0, .int .i64 0, .int .i64 0, .int .i64 0, .int .i64 0, .int .i64 0, .int .i64 0, .int .i64 0, .int .i64 0, .int .i64 0, .int .i64 0, .int .i64 0, .int .i64 0, .int .i64 0, .int .i64 0, .int .i64 0, .int .i64 0, .int .i64 0, .int .i64 0, .int .i64 0, .int .i64 0, .int .i64 0, .int .i64 0, .int .i64 0, .int .i64 0, .int .i64 0, .int .i64 0, .int .i64 0, .int .i64 0, .int .i64 0, .int .i64 0, .int .i64 0, .int .i64 0, .int .i64 0, .int .i64 0, .int .i64 0, .int .i64 0, .int .i64 0] #[.int .i64 0, .int .i64 0, .int .i64 0, .int .i64 0, .int .i64 0, .int .i64 0, .int .i64 0, .int .i64 0, .int .i64 0, .int .i64 0, .int .i64 0, .int .i64 0, .int .i64 0, .int .i64 0, .int .i64 0, .int .i64 0, .int .i64 0, .int .i64 0, .int .i64 0, .int .i64 0, .int .i64 0, .int .i64 0, .int .i64 0, .int .i64 0, .int .i64 0, .int .i64 0, .int .i64 0, .int .i64 0, .int .i64 0, .int .i64 0, .int .i64 0, .int .i64 0, .int .i64 0, .int .i64 0, .int .i64 0, .int .i64 0, .int .i64 0, .int .i64 0, .int .i64 0, .int .i64 0, .int .i64 0, .int .i64 0, .int .i64 0, .int .i64 0, .int .i64 0, .int .i64 0, .int .i64 0, .int .i64 0, .int .i64 0, .int .i64 0, .int .i64 0, .int .i64 0, .int .i64 0, .int .i64 0, .int .i64 0, .int .i64 0, .int .i64 0, .int .i64 0, .int .i64 0, .int .i64 0, .int .i64 0, .int .i64 0, .int .i64 0, .int .i64 0] (sqA N F) (sqA N G) (fun _ _ _ => True) true (ds.getD 6 true) (ds.getD 7 true) (ds.getD 8 true) (ds.getD 9 true) v3 v4 0 0 D E w') (by kernel_rfl) ?h0 (by rfl) (by decide) ?hC ?hend ?hstep
  case h0 => exact ⟨undef, undef, undef, undef, 0, 0, by go_simp, ⟨by decide, by decide, by decide, by decide⟩, (Ex.refl W0).drew, fun hb => absurd hb (by decide), fun hb => absurd hb (by decide), TwoR.begin⟩
  case hC =>
    rintro ds a w' ⟨v8, v12, v3, v4, D, E, rfl, ⟨hd0, hd2, hd3, hd4⟩, hE, h8, h12, hT⟩
    exact HK.out w' hE
  case hstep =>
    rintro ds a w' ⟨v8, v12, v3, v4, D, E, rfl, ⟨hd0, hd2, hd3, hd4⟩, hE, h8, h12, hT⟩ j oj hoj hu hall
    have hjn : j < 10 := (Array.getElem?_eq_some_iff.1 hoj).1
    rcases (by omega : j = 0 ∨ j = 1 ∨ j = 2 ∨ j = 3 ∨ j = 4 ∨ j = 5 ∨ j = 6 ∨ j = 7 ∨ j = 8 ∨ j = 9) with rfl | rfl | rfl | rfl | rfl | rfl | rfl | rfl | rfl | rfl
    · rw [hd0] at hu; cases hu
    · obtain rfl := Option.some.inj hoj
      clear hall
      refine wpOp_step rfl fun K' hK' => ?_
      have hK := Lib.hid hK'
      clear hK'
      rw [if_pos (by rfl)]
      try simp only [Act.put]
      go_simp
      refine (HFO.out w' (HE0.out.trans hE)).mono ?_
      rintro e w2 ⟨rfl, hv⟩
      refine hK.out _ _ ⟨.agg (sqA N F), v12, v3, v4, D, E, by go_simp, ⟨bt_keep hd0, bt_keep hd2, bt_keep hd3, bt_keep hd4⟩, hE.trans hv, fun _ => rfl, fun hb => h12 (bt_old hb (by decide : (5 : Nat) ≠ 1)), ?_⟩
      rw [bt_ne (d := ds) (j := 1) (i := 6) (by decide), bt_ne (d := ds) (j := 1) (i := 7) (by decide), bt_ne (d := ds) (j := 1) (i := 8) (by decide), bt_ne (d := ds) (j := 1) (i := 9) (by decide)]
      exact hT.ex keptTrue hv
    · rw [hd2] at hu; cases hu
    · rw [hd3] at hu; cases hu
    · rw [hd4] at hu; cases hu
    · obtain rfl := Option.some.inj hoj
      clear hall
      refine wpOp_step rfl fun K' hK' => ?_
      have hK := Lib.hid hK'
      clear hK'
      rw [if_pos (by rfl)]
      try simp only [Act.put]
      go_simp
      refine (HFW.out w' (HE0.out.trans hE)).mono ?_
      rintro e w2 ⟨rfl, hv⟩
      refine hK.out _ _ ⟨v8, .agg (sqA N G), v3, v4, D, E, by go_simp, ⟨bt_keep hd0, bt_keep hd2, bt_keep hd3, bt_keep hd4⟩, hE.trans hv, fun hb => h8 (bt_old hb (by decide : (1 : Nat) ≠ 5)), fun _ => rfl, ?_⟩
      rw [bt_ne (d := ds) (j := 5) (i := 6) (by decide), bt_ne (d := ds) (j := 5) (i := 7) (by decide), bt_ne (d := ds) (j := 5) (i := 8) (by decide), bt_ne (d := ds) (j := 5) (i := 9) (by decide)]
      exact hT.ex keptTrue hv
    · obtain rfl := Option.some.inj hoj
      clear hall
      refine wpOp_step rfl fun K' hK' => ?_
      have hK := Lib.hid hK'
      clear hK'
      rw [if_pos (by rfl)]
      try simp only [Act.put]
      go_simp
      refine hK.out _ _ ⟨v8, v12, (.pointer (some ⟨w'.heap.size, 0, none⟩)), v4, w'.heap.size, E, by go_simp, ⟨bt_keep hd0, bt_keep hd2, bt_keep hd3, bt_keep hd4⟩, hE.alloc _, fun hb => h8 (bt_old hb (by decide : (1 : Nat) ≠ 6)), fun hb => h12 (bt_old hb (by decide : (5 : Nat) ≠ 6)), ?_⟩
      rw [bt_self (d := ds) (j := 6), bt_ne (d := ds) (j := 6) (i := 7) (by decide), bt_ne (d := ds) (j := 6) (i := 8) (by decide), bt_ne (d := ds) (j := 6) (i := 9) (by decide)]
      rw [hu] at hT; exact hT.alloc0 keptTrue hE.size
    · obtain rfl := Option.some.inj hoj
      clear hall
      refine wpOp_step rfl fun K' hK' => ?_
      have hK := Lib.hid hK'
      clear hK'
      rw [if_pos (by rfl)]
      try simp only [Act.put]
      go_simp
      refine hK.out _ _ ⟨v8, v12, v3, (.pointer (some ⟨w'.heap.size, 0, none⟩)), D, w'.heap.size, by go_simp, ⟨bt_keep hd0, bt_keep hd2, bt_keep hd3, bt_keep hd4⟩, hE.alloc _, fun hb => h8 (bt_old hb (by decide : (1 : Nat) ≠ 7)), fun hb => h12 (bt_old hb (by decide : (5 : Nat) ≠ 7)), ?_⟩
      rw [bt_ne (d := ds) (j := 7) (i := 6) (by decide), bt_self (d := ds) (j := 7), bt_ne (d := ds) (j := 7) (i := 8) (by decide), bt_ne (d := ds) (j := 7) (i := 9) (by decide)]
      rw [hu] at hT; exact hT.alloc1 keptTrue hE.size
    · obtain rfl := Option.some.inj hoj
      have hv8 := h8 (hall ⟨1, .data⟩ (by simp) rfl)
      have hal := (hall ⟨6, .data⟩ (by simp) rfl)
      obtain ⟨hv3, hDl, hDH, -⟩ := hT.box0 hal
      rw [hu, cond_false] at hDH
      clear hall
      refine wpOp_step rfl fun K' hK' => ?_
      have hK := Lib.hid hK'
      clear hK'
      rw [if_pos (by rfl)]
      subst hv8 hv3
      have hDD : Has w' D 109 #[.int .i64 0, .int .i64 0, .int .i64 0, .int .i64 0, .int .i64 0, .int .i64 0, .int .i64 0, .int .i64 0, .int .i64 0, .int .i64 0, .int .i64 0, .int .i64 0, .int .i64 0, .int .i64 0, .int .i64 0, .int .i64 0, .int .i64 0, .int .i64 0, .int .i64 0, .int .i64 0, .int .i64 0, .int .i64 0, .int .i64 0, .int .i64 0, .int .i64 0, .int .i64 0, .int .i64 0, .int .i64 0, .int .i64 0, .int .i64 0, .int .i64 0, .int .i64 0, .int .i64 0, .int .i64 0, .int .i64 0, .int .i64 0, .int .i64 0, .int .i64 0, .int .i64 0, .int .i64 0, .int .i64 0, .int .i64 0, .int .i64 0, .int .i64 0, .int .i64 0, .int .i64 0, .int .i64 0, .int .i64 0, .int .i64 0, .int .i64 0, .int .i64 0, .int .i64 0, .int .i64 0, .int .i64 0, .int .i64 0, .int .i64 0, .int .i64 0, .int .i64 0, .int .i64 0, .int .i64 0, .int .i64 0, .int .i64 0, .int .i64 0, .int .i64 0] := hDH
      clear hDH
      simp only [Act.put, List.getElem_toArray, List.getElem_cons_zero, List.getElem_cons_succ, List.setIfInBounds_toArray, List.set_cons_zero, List.set_cons_succ]
      refine wp_store_row 109 _ _ rfl D (sqA N F) rfl rfl 109 _ hDD (by rw [sqA_size]; exact infoSq) (by rw [sqA_size]; rfl) (sqA_cells _ _) ?_
      refine hK.out _ _ ⟨.agg (sqA N F), v12, (.pointer (some ⟨D, 0, none⟩)), v4, D, E, by go_simp, ⟨bt_keep hd0, bt_keep hd2, bt_keep hd3, bt_keep hd4⟩, hE.row hDl _, fun _ => rfl, fun hb => h12 (bt_old hb (by decide : (5 : Nat) ≠ 8)), ?_⟩
      rw [bt_ne (d := ds) (j := 8) (i := 6) (by decide), bt_ne (d := ds) (j := 8) (i := 7) (by decide), bt_self (d := ds) (j := 8), bt_ne (d := ds) (j := 8) (i := 9) (by decide)]
      rw [hal] at hT ⊢; exact hT.store0 keptTrue (Only.row _ D _) hDD.row_set
    · obtain rfl := Option.some.inj hoj
      have hv8 := h12 (hall ⟨5, .data⟩ (by simp) rfl)
      have hal := (hall ⟨7, .data⟩ (by simp) rfl)
      obtain ⟨hv3, hDl, hDH, -⟩ := hT.box1 hal
      rw [hu, cond_false] at hDH
      clear hall
      refine wpOp_step rfl fun K' hK' => ?_
      have hK := Lib.hid hK'
      clear hK'
      rw [if_pos (by rfl)]
      subst hv8 hv3
      have hDD : Has w' E 109 #[.int .i64 0, .int .i64 0, .int .i64 0, .int .i64 0, .int .i64 0, .int .i64 0, .int .i64 0, .int .i64 0, .int .i64 0, .int .i64 0, .int .i64 0, .int .i64 0, .int .i64 0, .int .i64 0, .int .i64 0, .int .i64 0, .int .i64 0, .int .i64 0, .int .i64 0, .int .i64 0, .int .i64 0, .int .i64 0, .int .i64 0, .int .i64 0, .int .i64 0, .int .i64 0, .int .i64 0, .int .i64 0, .int .i64 0, .int .i64 0, .int .i64 0, .int .i64 0, .int .i64 0, .int .i64 0, .int .i64 0, .int .i64 0, .int .i64 0, .int .i64 0, .int .i64 0, .int .i64 0, .int .i64 0, .int .i64 0, .int .i64 0, .int .i64 0, .int .i64 0, .int .i64 0, .int .i64 0, .int .i64 0, .int .i64 0, .int .i64 0, .int .i64 0, .int .i64 0, .int .i64 0, .int .i64 0, .int .i64 0, .int .i64 0, .int .i64 0, .int .i64 0, .int .i64 0, .int .i64 0, .int .i64 0, .int .i64 0, .int .i64 0, .int .i64 0] := hDH
      clear hDH
      simp only [Act.put, List.getElem_toArray, List.getElem_cons_zero, List.getElem_cons_succ, List.setIfInBounds_toArray, List.set_cons_zero, List.set_cons_succ]
      refine wp_store_row 109 _ _ rfl E (sqA N G) rfl rfl 109 _ hDD (by rw [sqA_size]; exact infoSq) (by rw [sqA_size]; rfl) (sqA_cells _ _) ?_
      refine hK.out _ _ ⟨v8, .agg (sqA N G), v3, (.pointer (some ⟨E, 0, none⟩)), D, E, by go_simp, ⟨bt_keep hd0, bt_keep hd2, bt_keep hd3, bt_keep hd4⟩, hE.row hDl _, fun hb => h8 (bt_old hb (by decide : (1 : Nat) ≠ 9)), fun _ => rfl, ?_⟩
      rw [bt_ne (d := ds) (j := 9) (i := 6) (by decide), bt_ne (d := ds) (j := 9) (i := 7) (by decide), bt_ne (d := ds) (j := 9) (i := 8) (by decide), bt_self (d := ds) (j := 9)]
      rw [hal] at hT ⊢; exact hT.store1 keptTrue (Only.row _ E _) hDD.row_set
  case hend =>
    rintro ds a w' ⟨v8, v12, v3, v4, D, E, rfl, ⟨hd0, hd2, hd3, hd4⟩, hE, h8, h12, hT⟩ hall
    obtain ⟨rfl, hD1, hD, -⟩ := hT.box0 (hall 6 (by decide))
    obtain ⟨rfl, hE1, hH, -⟩ := hT.box1 (hall 7 (by decide))
    rw [hall 8 (by decide)] at hD
    rw [hall 9 (by decide)] at hH
    have hD' : Has w' D 109 (sqA N F) := hD
    have hH' : Has w' E 109 (sqA N G) := hH
    have HX := Lib.hid (HE0.out.trans hE)
    have bG := HB0.out.ex hE
    obtain ⟨S, hS⟩ : ∃ S, w'.heap.size = S := ⟨_, rfl⟩
    have hDS : D < S := by have := hD'.lt; omega
    have hES : E < S := by have := hH'.lt; omega
    have hwS : w.heap.size < S := by have := bG.lt; omega
    have ea := (Ex.refl w').alloc (.cells #[.int .u64 0] 66)
    have k0 := (bG.ex ea).cell 0
    clear hall hT hD hH hE h8 h12 hd0 hd2 hd3 hd4 hD1 hE1
    try simp only [Act.put]
    go_simp
    go_wp2_with fail
    refine (elementsOf_any B0 N d0 _).mono ?_
    rintro e w2 ⟨rfl, rfl⟩
    simp only [World.size_alloc, hS]
    obtain ⟨W4, hW4⟩ : ∃ W4, (w'.alloc (.cells #[.int .u64 0] 66)).alloc (.cells #[.slice B0 N d0] 32) = W4 := ⟨_, rfl⟩
    have eb := ea.alloc (.cells #[.slice B0 N d0] 32)
    have bD := hD'.ex eb
    have bH := hH'.ex eb
    have bS : Has ((w'.alloc (.cells #[.int .u64 0] 66)).alloc (.cells #[.slice B0 N d0] 32)) S 66 #[.int .u64 0] := (Has.newAt (w := w') (e := 66) (cs := #[.int .u64 0]) hS).alloc _
    have bE : Has ((w'.alloc (.cells #[.int .u64 0] 66)).alloc (.cells #[.slice B0 N d0] 32)) (S + 1) 32 #[.slice B0 N d0] := Has.newAt (by simp [hS])
    have HE4 := Lib.hid (HX.out.trans eb)
    have hsz4 : ((w'.alloc (.cells #[.int .u64 0] 66)).alloc (.cells #[.slice B0 N d0] 32)).heap.size = S + 1 + 1 := by simp [hS]
    rw [hW4] at bD bH bS bE HE4 hsz4 ⊢
    have HD := Lib.hid bD
    have HH := Lib.hid bH
    clear hW4 bG ea eb k0 bD bH hD' hH'
    go_wp2_with fail
    refine (wpIn_wide (n := 20)).1 ?_
    refine range_top (n := 20) (n₀ := S) (by omega) (gf := 109) (lb := #[.pointer (some ⟨S + 1, 0, none⟩)]) rfl (enters_of Tryz.func109 (by kernel_rfl) rfl)
      (elements_stops 19 (by omega) (S + 1) S N d0 _ W4 (by omega) (bE.cell 0) (by omega)) (by omega) (fun _ => rfl)
      (fun pre W => Has W S 66 #[.int .u64 (pset P pre : Int)])
      (fun c' _ W => False)
      (Own.from (has_own _ _ _) _)
      (fun _ => ownFrom_pure _ _)
      (by simpa [pset] using bS) ?round ?done ?stop
    case stop =>
      rintro D' c' pre W hD' hpre hh
      exact hh.elim
    case done =>
      rintro D' xs W hD' rfl hA hKW hK
      have cs := hA.cell 0
      have HKW := Lib.hid hKW
      have HKD := Lib.hid hK
      clear hA hKW hK bS bE
      simp only [Exit.inBlock, Exit.then]
      go_wp2_with fail
      refine ⟨by simp, .inl ⟨_, _, rfl, run_takeDeferred HKD.out, ?_⟩⟩
      have hEs : Ex w W := HE4.out.trans' HKW.out.1 (by omega)
      exact ⟨_, results_tmp rfl _ _ _, rfl, Below.grown hEs (grownBy_putObj' W D' (.deferred none)) hEs.size (fun k hk => by cases hk; omega)⟩
    case round =>
      clear bS bE
      intro l x W K hK
      have HK := Lib.hid hK
      clear hK
      gi_wp2
      refine HK.out _ ?_
      clear HK
      rintro l pre W7 hr hA hKW _
      obtain ⟨k, hk⟩ := x
      have hk8 : k < 8 := by omega
      have hD7 : Has W7 D 109 (sqA N F) := HD.out.below hKW.1 hDS
      have hH7 : Has W7 E 109 (sqA N G) := HH.out.below hKW.1 hES
      have hzw : S ≤ W7.heap.size := by have := hKW.size; omega
      have heq := fun W => HEQ.out k hk W
      have hsn := pset_snoc P pre ⟨k, hk⟩
      rw [show ((⟨k, hk⟩ : Fin N).val) = k from rfl] at hsn
      have hkl := pset_lt P hn8 pre
      obtain ⟨q, hq⟩ : ∃ q, P k = q := ⟨_, rfl⟩
      rw [hq] at heq hsn
      obtain ⟨s, hs⟩ : ∃ s, pset P pre = s := ⟨_, rfl⟩
      rw [hs] at hkl hsn hA
      have HSN := Lib.hid hsn
      have HA := Lib.hid hA
      have HRG := Lib.hid (fun W' (he : Ex W7 W') => (⟨sq_range (hD7.ex he) hk8, sq_range (hH7.ex he) hk8⟩ : W'.rangeAt D (k * 8) (sqR N F k) ∧ W'.rangeAt E (k * 8) (sqR N G k)))
      have hlF : (sqR N F k).length = 8 := by simp [sqR]
      have hlG : (sqR N G k).length = 8 := by simp [sqR]
      obtain ⟨cF, hcF⟩ : ∃ c, sqR N F k = c := ⟨_, rfl⟩
      obtain ⟨cG, hcG⟩ : ∃ c, sqR N G k = c := ⟨_, rfl⟩
      rw [hcF, hcG] at heq HRG
      rw [hcF] at hlF
      rw [hcG] at hlG
      have HLF := Lib.hid hlF
      have HLG := Lib.hid hlG
      have hgd : Tryz.prog.eqGuardType Tryz.prog.depth 107 = false := by kernel_rfl
      have hk0 : (0 : Int) ≤ (k : Int) := by omega
      have hk8' : (k : Int) < 8 := by omega
      clear hA hD7 hH7 hsn hq hs hcF hcG hlF hlG hKW
      cases q with
      | true =>
        rw [if_pos rfl] at HSN
        gi_wp2_with fail
        refine Late.round (C := fun w' : World => Ex W7 w' ∧ (w'.rangeAt D (k * 8) cF ∧ w'.rangeAt E (k * 8) cG)) (fun _ => true) (by kernel_rfl) (by rfl) (by rintro ⟨_, _, hh⟩; exact hh) ⟨(Ex.refl W7).drew, HRG.out _ (Ex.refl W7).drew⟩ ?_
        intro hS
        refine Late.take (i := 0) (oi := _) (v := ?_) rfl (by kernel_rfl) (by kernel_rfl) (by kernel_rfl) (by kernel_rfl) (fun _ _ _ h => h) (Or.inl ⟨by rfl, ?_⟩) hS ?_
        rotate_left
        · (intro w hSw; (try dsimp only at hSw); go_simp; first | done | with_reducible rfl)
        simp only [Act.put]
        refine Late.take (i := 1) (oi := _) (v := ?_) rfl (by kernel_rfl) (by kernel_rfl) (by kernel_rfl) (by kernel_rfl) (fun _ _ _ h => h) (Or.inl ⟨by rfl, ?_⟩) hS ?_
        rotate_left
        · (intro w hSw; (try dsimp only at hSw); go_simp; first | done | with_reducible rfl)
        simp only [Act.put]
        refine Late.take (i := 2) (oi := _) (v := .agg cF.toArray) rfl (by kernel_rfl) (by kernel_rfl) (by kernel_rfl) (by kernel_rfl) (fun _ _ _ h => h) (yieldsIf_load_mid (by rfl) 107 _ rfl D (k * 8) rfl cF _ (fun _ hh => hh.2.1) Tryz.underlying107 rfl (by rw [HLF.out]; exact info8)) hS ?_
        try simp only [Act.put, List.setIfInBounds_toArray]
        refine Late.take (i := 3) (oi := _) (v := ?_) rfl (by kernel_rfl) (by kernel_rfl) (by kernel_rfl) (by kernel_rfl) (fun _ _ _ h => h) (Or.inl ⟨by rfl, ?_⟩) hS ?_
        rotate_left
        · (intro w hSw; (try dsimp only at hSw); go_simp; first | done | with_reducible rfl)
        simp only [Act.put]
        refine Late.take (i := 4) (oi := _) (v := ?_) rfl (by kernel_rfl) (by kernel_rfl) (by kernel_rfl) (by kernel_rfl) (fun _ _ _ h => h) (Or.inl ⟨by rfl, ?_⟩) hS ?_
        rotate_left
        · (intro w hSw; (try dsimp only at hSw); go_simp; first | done | with_reducible rfl)
        simp only [Act.put]
        refine Late.take (i := 5) (oi := _) (v := .agg cG.toArray) rfl (by kernel_rfl) (by kernel_rfl) (by kernel_rfl) (by kernel_rfl) (fun _ _ _ h => h) (yieldsIf_load_mid (by rfl) 107 _ rfl E (k * 8) rfl cG _ (fun _ hh => hh.2.2) Tryz.underlying107 rfl (by rw [HLG.out]; exact info8)) hS ?_
        try simp only [Act.put]
        refine Late.take (i := 6) (oi := _) (v := ?_) rfl (by kernel_rfl) (by kernel_rfl) (by kernel_rfl) (by kernel_rfl) (fun _ _ _ h => h) (Or.inl ⟨by rfl, ?_⟩) hS ?_
        rotate_left
        · (intro w hSw; (try dsimp only at hSw); go_simp; first | done | with_reducible rfl)
        simp only [Act.put]
        refine Late.done (by kernel_rfl) ?_ _
        have HS1 := Lib.hid hS.1
        have c0 := (HA.out.ex hS.1).cell 0
        have f0 := (HA.out.ex hS.1).free 0
        clear hS heq
        gi_wp2_with (refine ⟨trivial, ?_⟩; gi_at_call 75; refine (callsIn_wide.2 (with_any s k _ hkl (by omega))).mono ?_; rintro e w9 ⟨rfl, rfl⟩)
        refine ⟨(Keeps.of_below HS1.out hzw).setCell (p := ⟨S, 0, none⟩) (Nat.le_refl _) _, ?_⟩
        dsimp only
        rw [HSN.out]
        exact (HA.out.ex HS1.out).put1
      | false =>
        rw [if_neg (by simp)] at HSN
        gi_wp2_with fail
        refine Late.round (C := fun w' : World => Ex W7 w' ∧ (w'.rangeAt D (k * 8) cF ∧ w'.rangeAt E (k * 8) cG)) (fun _ => true) (by kernel_rfl) (by rfl) (by rintro ⟨_, _, hh⟩; exact hh) ⟨(Ex.refl W7).drew, HRG.out _ (Ex.refl W7).drew⟩ ?_
        intro hS
        refine Late.take (i := 0) (oi := _) (v := ?_) rfl (by kernel_rfl) (by kernel_rfl) (by kernel_rfl) (by kernel_rfl) (fun _ _ _ h => h) (Or.inl ⟨by rfl, ?_⟩) hS ?_
        rotate_left
        · (intro w hSw; (try dsimp only at hSw); go_simp; first | done | with_reducible rfl)
        simp only [Act.put]
        refine Late.take (i := 1) (oi := _) (v := ?_) rfl (by kernel_rfl) (by kernel_rfl) (by kernel_rfl) (by kernel_rfl) (fun _ _ _ h => h) (Or.inl ⟨by rfl, ?_⟩) hS ?_
        rotate_left
        · (intro w hSw; (try dsimp only at hSw); go_simp; first | done | with_reducible rfl)
        simp only [Act.put]
        refine Late.take (i := 2) (oi := _) (v := .agg cF.toArray) rfl (by kernel_rfl) (by kernel_rfl) (by kernel_rfl) (by kernel_rfl) (fun _ _ _ h => h) (yieldsIf_load_mid (by rfl) 107 _ rfl D (k * 8) rfl cF _ (fun _ hh => hh.2.1) Tryz.underlying107 rfl (by rw [HLF.out]; exact info8)) hS ?_
        try simp only [Act.put, List.setIfInBounds_toArray]
        refine Late.take (i := 3) (oi := _) (v := ?_) rfl (by kernel_rfl) (by kernel_rfl) (by kernel_rfl) (by kernel_rfl) (fun _ _ _ h => h) (Or.inl ⟨by rfl, ?_⟩) hS ?_
        rotate_left
        · (intro w hSw; (try dsimp only at hSw); go_simp; first | done | with_reducible rfl)
        simp only [Act.put]
        refine Late.take (i := 4) (oi := _) (v := ?_) rfl (by kernel_rfl) (by kernel_rfl) (by kernel_rfl) (by kernel_rfl) (fun _ _ _ h => h) (Or.inl ⟨by rfl, ?_⟩) hS ?_
        rotate_left
        · (intro w hSw; (try dsimp only at hSw); go_simp; first | done | with_reducible rfl)
        simp only [Act.put]
        refine Late.take (i := 5) (oi := _) (v := .agg cG.toArray) rfl (by kernel_rfl) (by kernel_rfl) (by kernel_rfl) (by kernel_rfl) (fun _ _ _ h => h) (yieldsIf_load_mid (by rfl) 107 _ rfl E (k * 8) rfl cG _ (fun _ hh => hh.2.2) Tryz.underlying107 rfl (by rw [HLG.out]; exact info8)) hS ?_
        try simp only [Act.put]
        refine Late.take (i := 6) (oi := _) (v := ?_) rfl (by kernel_rfl) (by kernel_rfl) (by kernel_rfl) (by kernel_rfl) (fun _ _ _ h => h) (Or.inl ⟨by rfl, ?_⟩) hS ?_
        rotate_left
        · (intro w hSw; (try dsimp only at hSw); go_simp; first | done | with_reducible rfl)
        simp only [Act.put]
        refine Late.done (by kernel_rfl) ?_ _
        have HS1 := Lib.hid hS.1
        clear hS heq
        gi_wp2_with fail
        refine ⟨Keeps.of_below HS1.out hzw, ?_⟩
        dsimp only
        rw [HSN.out]
        exact HA.out.ex HS1.out

set_option maxRecDepth 100000 in
set_option maxHeartbeats 4000000 in
theorem implRegularElements_ex (t0 : List (List Int)) (m1 m2 : Int) (t2 : List Int) : ∀ (B0 : Option Addr) (d0 : Nat) (B2 : Option Addr) (d2 : Nat) (W : World), RwsW W B0 t0 → IntsW W B2 t2 → SmallT t0 → t2.length ≤ 1048576 → TabL W →
    Calls Tryz.prog 11 #[.agg #[.slice B0 t0.length d0], .int .i64 m1, .agg #[.int .i64 m2, .slice B2 t2.length d2]] W fun e W' => ∃ (C0 : Option Addr) (e0 : Nat), e = .returned (.tuple #[.slice C0 (yRegularElements0 t0 m1 m2 t2).length e0, .int .i64 (qRegularElements1 t0 m1 m2 t2)]) ∧ Ex W W' ∧ OwnL W' W.heap.size W'.heap.size C0 (yRegularElements0 t0 m1 m2 t2) := by
  intro B0 d0 B2 d2 w hR hF hs hf hTL
  have e0 : Ex w ((w.alloc (.cells #[.slice B0 t0.length d0] 32)).alloc (.cells #[.int .i64 m2, .slice B2 t2.length d2] 34)) := ((Ex.refl w).alloc _).alloc _
  have b0 : Has ((w.alloc (.cells #[.slice B0 t0.length d0] 32)).alloc (.cells #[.int .i64 m2, .slice B2 t2.length d2] 34)) (w.heap.size) 32 #[.slice B0 t0.length d0] := ((Has.newAt (w := w) (e := 32) (cs := #[.slice B0 t0.length d0]) (k := w.heap.size) (by simp)).alloc _)
  have b1 : Has ((w.alloc (.cells #[.slice B0 t0.length d0] 32)).alloc (.cells #[.int .i64 m2, .slice B2 t2.length d2] 34)) (w.heap.size + 1) 34 #[.int .i64 m2, .slice B2 t2.length d2] := (Has.newAt (w := (w.alloc (.cells #[.slice B0 t0.length d0] 32))) (e := 34) (cs := #[.int .i64 m2, .slice B2 t2.length d2]) (k := w.heap.size + 1) (by simp))
  have HFS := Lib.hid (factorSetOf_any B0 B2 t0 m1 m2 t2 d0 d2 _ (hR.ex e0) (hF.ex e0) hs hf)
  have HE := Lib.hid e0
  have c0 := b0.cell 0
  have c1 := b1.cell 0
  have c1' := b1.cell 1
  clear b0 b1
  by_cases hz : c10 t0 m1 m2 t2 = 0
  · obtain ⟨M, rfl, rfl, h⟩ := c10_yes hz
    have hn8 := h.m.g.n8
    have HS := Lib.hid (fun W (he : Ex w W) => regularSet_any B0 B2 t0 M t2 d0 d2 W (hR.ex he) (hF.ex he) h)
    have HQ : Hid (yRegularElements0 t0 (M : Int) 2 t2 = elI (pset (rgB t0 M t2) (List.finRange t0.length)) ∧ qRegularElements1 t0 (M : Int) 2 t2 = 0) := Lib.hid ⟨by rw [(re_yes hz).1, pset_all _ hn8], (re_yes hz).2⟩
    have hsl := pset_lt (rgB t0 M t2) hn8 (List.finRange t0.length)
    have HTB := Lib.hid hTL
    rw [hz] at HFS
    obtain ⟨s, hse⟩ : ∃ s, pset (rgB t0 M t2) (List.finRange t0.length) = s := ⟨_, rfl⟩
    rw [hse] at HS HQ hsl
    clear hR hF hs hf hz h e0 hse hTL
    go_enter Tryz.func11, Tryz.ntmps11
    go_wp2_with fail
    generalize ((w.alloc (.cells #[.slice B0 t0.length d0] 32)).alloc (.cells #[.int .i64 2, .slice B2 t2.length d2] 34)) = W0 at *
    refine HFS.out.mono ?_
    rintro e W1 ⟨v, rfl, he1, hv, -⟩
    obtain rfl : v = _ := by first | exact hv rfl | exact hv trivial
    have HE1 := Lib.hid ((HE.out.trans he1).alloc (.cells #[.slice B0 t0.length d0, .int .i64 (M : Int), .int .i64 2, .slice B2 t2.length d2] 62))
    have hbx := Has.new W1 62 #[.slice B0 t0.length d0, .int .i64 (M : Int), .int .i64 2, .slice B2 t2.length d2]
    have x0 := hbx.cell 0
    have x1 := hbx.cell 1
    have x2 := hbx.cell 2
    have x3 := hbx.cell 3
    clear he1 hv c0 c1 c1' hbx
    go_wp2_with fail
    refine (HS.out _ HE1.out).mono ?_
    rintro e W3 ⟨rfl, he3⟩
    have HE3 := Lib.hid (HE1.out.trans he3)
    clear he3 x0 x1 x2 x3
    go_wp2_with fail
    refine (setList_g s W3 hsl (HTB.out.below HE3.out.below HTB.out.lt)).mono ?_
    rintro e W4 ⟨A4, n4, rfl, he4, hg4⟩
    have HE4 := Lib.hid (HE3.out.trans he4)
    obtain ⟨A5, n5, e5, ho5⟩ := hg4.own
    simp only [Value.slice.injEq] at e5
    obtain ⟨rfl, _, rfl⟩ := e5
    have HO := Lib.hid (ho5.mono HE3.out.size (Nat.le_refl _) (Nat.le_refl _))
    clear he4 hg4 ho5
    go_wp2_with fail
    go_ret2
    exact ⟨A4, n4, by rw [HQ.out.1, HQ.out.2]; rfl, HE4.out, by rw [HQ.out.1]; exact HO.out⟩
  · have HQ := Lib.hid (re_no hz)
    obtain ⟨C, hC⟩ : ∃ C, c10 t0 m1 m2 t2 = C := ⟨_, rfl⟩
    rw [hC] at HFS HQ hz
    have hne : (C != 0) = true := by simpa using hz
    have HZ := Lib.hid hz
    clear hR hF hs hf hz e0 hC hTL
    go_enter Tryz.func11, Tryz.ntmps11
    go_wp2_with fail
    generalize ((w.alloc (.cells #[.slice B0 t0.length d0] 32)).alloc (.cells #[.int .i64 m2, .slice B2 t2.length d2] 34)) = W0 at *
    refine HFS.out.mono ?_
    rintro e W1 ⟨v, rfl, he1, -, hv⟩
    obtain rfl := hv HZ.out
    have HE1 := Lib.hid ((HE.out.trans he1).alloc (.cells #[.slice none 0 0, .int .i64 0, .int .i64 0, .slice none 0 0] 62))
    clear he1 hv c0 c1 c1'
    go_wp2_with fail
    go_ret2
    exact ⟨none, 0, by rw [HQ.out.1, HQ.out.2]; rfl, HE1.out, by rw [HQ.out.1]; exact OwnL.nil _ _ _ (Nat.le_refl _)⟩

end Go.Proofs.YtcdijeeabgmgmaaGreatDoor
