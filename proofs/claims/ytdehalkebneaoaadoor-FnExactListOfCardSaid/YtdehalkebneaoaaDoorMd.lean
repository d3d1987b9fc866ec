/- The laws' helpers for modules: measure, copy, compare. -/
import Derived.Test.YtdehalkebneaoaaDoorSz
import Derived.Test.YtdehalkebneaoaaDoorTo
import Derived.Test.YtdehalkebneaoaaDoorEq
namespace Go.Proofs.YtdehalkebneaoaaDoor
open Go.RowKit

set_option maxHeartbeats 400000 in
theorem szModule_any (A : Option Addr) (m : Int) (n c : Nat) (left : Int) (w : World) (hn : n ≤ maxLen) (h0 : 0 ≤ left) (h1 : left ≤ 1048576) :
    Calls Tryd.prog 24 #[.agg #[.int .i64 m, .slice A n c], .int .i64 left] w fun e w' => (∃ r : Int, e = .returned (.int .i64 r) ∧ (r = -1 ∨ (0 ≤ r ∧ r ≤ left ∧ (n : Int) ≤ left))) ∧ w' = w.alloc (.cells #[.int .i64 m, .slice A n c] 37) := by
  have HC := Lib.hid (szInt64S_any A n c left (w.alloc (.cells #[.int .i64 m, .slice A n c] 37)) hn h0 h1)
  unfold maxLen at hn
  by_cases h : left < n
  · rw [if_pos h] at HC
    go_enter Tryd.func24, Tryd.ntmps24
    go_wp2_with fail
    refine HC.out.mono ?_
    rintro e w' ⟨rfl, rfl⟩
    go_wp2
    go_ret
    exact ⟨⟨-1, rfl, .inl rfl⟩, rfl⟩
  · rw [if_neg h] at HC
    obtain ⟨r, hr⟩ : ∃ r, left - (n : Int) = r := ⟨_, rfl⟩
    rw [hr] at HC
    have hneg : decide (r < 0) = false := by simp; omega
    have HR := Lib.hid hr
    clear hr
    go_enter Tryd.func24, Tryd.ntmps24
    go_wp2_with fail
    refine HC.out.mono ?_
    rintro e w' ⟨rfl, rfl⟩
    go_wp2
    go_ret
    exact ⟨⟨r, rfl, .inr ⟨by have := HR.out; omega, by have := HR.out; omega, by omega⟩⟩, rfl⟩

set_option maxHeartbeats 800000 in
/-- toModule: a copy of a module, its list in one new block. -/
theorem toModule_any (A : Option Addr) (m : Int) (xs : List Int) (c B : Nat) (w : World) (hR : Ints w B A xs) (hB : B ≤ w.heap.size) (hn : xs.length ≤ 1048576) :
    Calls Tryd.prog 27 #[.agg #[.int .i64 m, .slice A xs.length c]] w fun e w' => ∃ G, e = .returned (.agg #[.int .i64 m, .slice (some ⟨G, 0, none⟩) xs.length xs.length]) ∧ w.heap.size ≤ G ∧ Below w.heap.size w w' ∧ G < w'.heap.size ∧
      Has w' G 2 (tab xs.length fun j => .int .i64 (nth xs j)) := by
  have HR := Lib.hid hR
  clear hR
  go_enter Tryd.func27, Tryd.ntmps27
  go_wp2_with fail
  have H1 := ((Has.new w 37 #[.int .i64 m, .slice A xs.length c]).alloc (.cells #[.int .i64 0, .slice none 0 0] 44)).alloc (.cells #[.int .i64 m, .slice none 0 0] 44)
  have H2 := (Has.new (w.alloc (.cells #[.int .i64 m, .slice A xs.length c] 37)) 44 #[.int .i64 0, .slice none 0 0]).alloc (.cells #[.int .i64 m, .slice none 0 0] 44)
  have H3 := Has.new ((w.alloc (.cells #[.int .i64 m, .slice A xs.length c] 37)).alloc (.cells #[.int .i64 0, .slice none 0 0] 44)) 44 #[.int .i64 m, .slice none 0 0]
  have hb : Below w.heap.size w (((w.alloc (.cells #[.int .i64 m, .slice A xs.length c] 37)).alloc (.cells #[.int .i64 0, .slice none 0 0] 44)).alloc (.cells #[.int .i64 m, .slice none 0 0] 44)) :=
    (((Below.refl _ _).alloc (Nat.le_refl _) _).alloc (by simp) _).alloc (by simp; omega) _
  have hz : (((w.alloc (.cells #[.int .i64 m, .slice A xs.length c] 37)).alloc (.cells #[.int .i64 0, .slice none 0 0] 44)).alloc (.cells #[.int .i64 m, .slice none 0 0] 44)).heap.size = w.heap.size + 1 + 1 + 1 := by simp
  simp only [World.size_alloc] at H1 H2 H3
  generalize (((w.alloc (.cells #[.int .i64 m, .slice A xs.length c] 37)).alloc (.cells #[.int .i64 0, .slice none 0 0] 44)).alloc (.cells #[.int .i64 m, .slice none 0 0] 44)) = W at *
  refine (toInt64S_any A xs c B W (HR.out.below hb hB) (by omega) hn).mono ?_
  rintro e w1 ⟨rfl, hb1, hz1, hf⟩
  have H1' := H1.below hb1 H1.lt
  have H2' := H2.below hb1 H2.lt
  have H3' := H3.below hb1 H3.lt
  have c3 := H3'.cell 0
  have c3' := H3'.cell 1
  have f3 := H3'.free 0
  have f3' := H3'.free 1
  have c2 := H2'.cell 0
  have c2' := H2'.cell 1
  have f2 := H2'.free 0
  have f2' := H2'.free 1
  have HZ := Lib.hid hz
  have HZ1 := Lib.hid hz1
  clear hz hz1 H1 H2 H3
  go_wp2
  have H4 := ((H2'.far (p := ⟨w.heap.size + 1 + 1, 1, none⟩) (by show w.heap.size + 1 ≠ w.heap.size + 1 + 1; omega) (.slice (some ⟨W.heap.size, 0, none⟩) xs.length xs.length)).put 0 (.int .i64 m)).put 1 (.slice (some ⟨W.heap.size, 0, none⟩) xs.length xs.length)
  have c4 := H4.cell 0
  have c4' := H4.cell 1
  have hW := HZ.out
  refine bodyPost_ret (v := .agg #[.int .i64 m, .slice (some ⟨W.heap.size, 0, none⟩) xs.length xs.length]) (by simp [results, Tryd.results27, go_sem, c4, c4']) rfl ⟨W.heap.size, rfl, by omega, ?_, ?_, ?_⟩
  · exact (((hb.trans (hb1.mono (by omega))).setCell (by show w.heap.size ≤ w.heap.size + 1 + 1; omega) _).setCell (by show w.heap.size ≤ w.heap.size + 1; omega) _).setCell (by show w.heap.size ≤ w.heap.size + 1; omega) _
  · have := HZ1.out
    simp
    omega
  · exact ((hf.far (by show W.heap.size ≠ w.heap.size + 1 + 1; omega) _).far (by show W.heap.size ≠ w.heap.size + 1; omega) _).far (by show W.heap.size ≠ w.heap.size + 1; omega) _

set_option maxHeartbeats 400000 in
/-- eqModule: are two modules equal? -/
theorem eqModule_any (A A' : Option Addr) (m m' : Int) (xs ys : List Int) (c c' B B' : Nat) (w : World) (hx : Ints w B A xs) (hy : Ints w B' A' ys) (hB : B ≤ w.heap.size) (hB' : B' ≤ w.heap.size) (hn : xs.length ≤ 1048576) (hm : ys.length ≤ 1048576) :
    Calls Tryd.prog 31 #[.agg #[.int .i64 m, .slice A xs.length c], .agg #[.int .i64 m', .slice A' ys.length c']] w fun e w' => e = .returned (.bool (decide (m = m') && decide (xs = ys))) ∧ Below w.heap.size w w' := by
  have hb0 : Below w.heap.size w ((w.alloc (.cells #[.int .i64 m, .slice A xs.length c] 44)).alloc (.cells #[.int .i64 m', .slice A' ys.length c'] 44)) := ((Below.refl _ _).alloc (Nat.le_refl _) _).alloc (by simp) _
  have HC := Lib.hid (eqInt64S_any A A' xs ys c c' B B' _ (hx.below hb0 hB) (hy.below hb0 hB') hn hm)
  clear hx hy
  by_cases hq : m = m'
  · have hq' : (m != m') = false := by simp [hq]
    have HQ := Lib.hid hq
    clear hq
    go_enter Tryd.func31, Tryd.ntmps31
    go_wp2_with fail
    refine HC.out.mono ?_
    rintro e W1 ⟨rfl, hd⟩
    have hb1 := hb0.trans (hd.below w.heap.size)
    clear hd
    cases hz : decide (xs = ys)
    · have HZ := Lib.hid hz
      clear hz
      go_wp2
      go_ret
      exact ⟨by rw [decide_eq_true HQ.out, HZ.out]; rfl, hb1⟩
    · have HZ := Lib.hid hz
      clear hz
      go_wp2
      go_ret
      exact ⟨by rw [decide_eq_true HQ.out, HZ.out]; rfl, hb1⟩
  · have hq' : (m != m') = true := by simp [hq]
    have HQ := Lib.hid hq
    clear hq
    go_enter Tryd.func31, Tryd.ntmps31
    go_wp2_with fail
    go_ret
    exact ⟨by rw [decide_eq_false HQ.out]; rfl, hb0⟩

theorem eqModule_same (A A' : Option Addr) (m : Int) (xs : List Int) (c c' B B' : Nat) (w : World) (hx : Ints w B A xs) (hy : Ints w B' A' xs) (hB : B ≤ w.heap.size) (hB' : B' ≤ w.heap.size) (hn : xs.length ≤ 1048576) :
    Calls Tryd.prog 31 #[.agg #[.int .i64 m, .slice A xs.length c], .agg #[.int .i64 m, .slice A' xs.length c']] w fun e w' => e = .returned (.bool true) ∧ Below w.heap.size w w' :=
  (eqModule_any A A' m m xs xs c c' B B' w hx hy hB hB' hn hn).mono fun _ _ ⟨h1, h2⟩ => ⟨by rw [h1]; simp, h2⟩

end Go.Proofs.YtdehalkebneaoaaDoor
