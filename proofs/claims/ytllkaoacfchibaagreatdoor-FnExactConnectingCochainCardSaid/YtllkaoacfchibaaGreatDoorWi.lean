/- Chapter 8: the maps of a sequence, by the program. -/
import Derived.Deep.Cut
import Derived.Test.YtllkaoacfchibaaGreatDoorWh
import Derived.Test.YtllkaoacfchibaaGreatDoorWc
namespace Go.Proofs.YtllkaoacfchibaaGreatDoor
open Go.RowKit

theorem Has.put6 {w : World} {g : Nat} {e : TypeId} {x0 x1 x2 x3 x4 x5 u0 u1 u2 u3 u4 u5 : Value} (h : Has w g e #[x0, x1, x2, x3, x4, x5]) : Has ((((((w.setCell ⟨g, 0, none⟩ u0).setCell ⟨g, 1, none⟩ u1).setCell ⟨g, 2, none⟩ u2).setCell ⟨g, 3, none⟩ u3).setCell ⟨g, 4, none⟩ u4).setCell ⟨g, 5, none⟩ u5) g e #[u0, u1, u2, u3, u4, u5] := by
  simpa using (((((h.put 0 u0).put 1 u1).put 2 u2).put 3 u3).put 4 u4).put 5 u5
theorem Has.far6 {w : World} {g b : Nat} {e : TypeId} {cs : Array Value} {u0 u1 u2 u3 u4 u5 : Value} (h : Has w b e cs) (hb : b ≠ g) : Has ((((((w.setCell ⟨g, 0, none⟩ u0).setCell ⟨g, 1, none⟩ u1).setCell ⟨g, 2, none⟩ u2).setCell ⟨g, 3, none⟩ u3).setCell ⟨g, 4, none⟩ u4).setCell ⟨g, 5, none⟩ u5) b e cs :=
  (((((h.far (p := ⟨g, 0, none⟩) hb _).far (p := ⟨g, 1, none⟩) hb _).far (p := ⟨g, 2, none⟩) hb _).far (p := ⟨g, 3, none⟩) hb _).far (p := ⟨g, 4, none⟩) hb _).far (p := ⟨g, 5, none⟩) hb _
theorem Ex.put6 {a w : World} {g : Nat} {u0 u1 u2 u3 u4 u5 : Value} (h : Ex a w) (hg : a.heap.size ≤ g) : Ex a ((((((w.setCell ⟨g, 0, none⟩ u0).setCell ⟨g, 1, none⟩ u1).setCell ⟨g, 2, none⟩ u2).setCell ⟨g, 3, none⟩ u3).setCell ⟨g, 4, none⟩ u4).setCell ⟨g, 5, none⟩ u5) :=
  (((((h.setCell (p := ⟨g, 0, none⟩) hg _).setCell (p := ⟨g, 1, none⟩) hg _).setCell (p := ⟨g, 2, none⟩) hg _).setCell (p := ⟨g, 3, none⟩) hg _).setCell (p := ⟨g, 4, none⟩) hg _).setCell (p := ⟨g, 5, none⟩) hg _

/-- All blocks stay but those from p to lo. -/
structure Goes (p lo : Nat) (W W' : World) : Prop where
  os : W'.os = W.os
  tape : W'.tape = W.tape
  output : W'.output = W.output
  size : W.heap.size ≤ W'.heap.size
  keep : ∀ b, (b < p ∨ lo ≤ b) → b < W.heap.size → W'.heap[b]? = W.heap[b]?
theorem Goes.of_ex {p lo : Nat} {W W' : World} (h : Ex W W') : Goes p lo W W' := ⟨h.below.os, h.below.tape, h.below.output, h.size, fun b _ hb => h.below.block b hb⟩
theorem Goes.trans {p lo : Nat} {W W' W2 : World} (h : Goes p lo W W') (k : Goes p lo W' W2) : Goes p lo W W2 := ⟨k.os.trans h.os, k.tape.trans h.tape, k.output.trans h.output, Nat.le_trans h.size k.size, fun b hb hl => (k.keep b hb (Nat.lt_of_lt_of_le hl h.size)).trans (h.keep b hb hl)⟩
theorem Goes.has {p lo g : Nat} {W W' : World} {T : TypeId} {cs : Array Value} (h : Goes p lo W W') (k : Has W g T cs) (hg : g < p ∨ lo ≤ g) : Has W' g T cs := (h.keep g hg k.lt).trans k
theorem Goes.set {p lo g o : Nat} {W W' : World} (h : Goes p lo W W') (h1 : p ≤ g) (h2 : g < lo) (v : Value) : Goes p lo W (W'.setCell ⟨g, o, none⟩ v) :=
  let k := (Below.refl 0 W').setCell (p := ⟨g, o, none⟩) (Nat.zero_le _) v
  h.trans ⟨k.os, k.tape, k.output, k.size, fun b hb _ => Below.heap_setCell W' ⟨g, o, none⟩ v b (by show b ≠ g; omega)⟩
theorem Goes.base {w0 W W' : World} {lo : Nat} (h : Ex w0 W) (k : Goes w0.heap.size lo W W') : Ex w0 W' :=
  ⟨k.os.trans h.below.os, k.tape.trans h.below.tape, k.output.trans h.below.output, Nat.le_trans h.size k.size, fun b hb => (k.keep b (.inl hb) (Nat.lt_of_lt_of_le hb h.size)).trans (h.below.block b hb)⟩
theorem Goes.put6 {p lo g : Nat} {W : World} {u0 u1 u2 u3 u4 u5 : Value} (h1 : p ≤ g) (h2 : g < lo) : Goes p lo W ((((((W.setCell ⟨g, 0, none⟩ u0).setCell ⟨g, 1, none⟩ u1).setCell ⟨g, 2, none⟩ u2).setCell ⟨g, 3, none⟩ u3).setCell ⟨g, 4, none⟩ u4).setCell ⟨g, 5, none⟩ u5) :=
  ((((((Goes.of_ex (Ex.refl W)).set h1 h2 _).set h1 h2 _).set h1 h2 _).set h1 h2 _).set h1 h2 _).set h1 h2 _
theorem OwnL.put6 {w : World} {lo hi g : Nat} {A : Option Addr} {xs : List Int} {u0 u1 u2 u3 u4 u5 : Value} (h : OwnL w lo hi A xs) (hg : g < lo) : OwnL ((((((w.setCell ⟨g, 0, none⟩ u0).setCell ⟨g, 1, none⟩ u1).setCell ⟨g, 2, none⟩ u2).setCell ⟨g, 3, none⟩ u3).setCell ⟨g, 4, none⟩ u4).setCell ⟨g, 5, none⟩ u5) lo hi A xs :=
  (((((h.above (Only.set _ _ _ _) hg).above (Only.set _ _ _ _) hg).above (Only.set _ _ _ _) hg).above (Only.set _ _ _ _) hg).above (Only.set _ _ _ _) hg).above (Only.set _ _ _ _) hg

/-- What a map's function does, whatever becomes of the blocks from p to lo: of the cochains that fulfil Cn it makes those of the degree dd with the values ys. -/
def LeadOK (Cn : Int → List Int → Prop) (dd : Int → Int) (ys : Int → List Int → List Int) (kf : Nat) (cap : Array Value) (p lo : Nat) (W : World) : Prop :=
  (∀ args w, (callFunc kf args).run Tryz.prog w = .ok (.enter kf args) w) ∧ ∀ W', Goes p lo W W' → ∀ (Fa : Option Addr) (n : Int) (fs : List Int) (c : Nat), IntsW W' Fa fs → Cn n fs →
    Calls Tryz.prog kf (#[.agg #[.int .i64 n, .slice Fa fs.length c]] ++ cap) W' fun e w' => ∃ C0 n0, e = .returned (.agg #[.int .i64 (dd n), .slice C0 (ys n fs).length n0]) ∧ Ex W' w' ∧ OwnL w' W'.heap.size w'.heap.size C0 (ys n fs)
theorem LeadOK.goes {Cn : Int → List Int → Prop} {dd : Int → Int} {ys : Int → List Int → List Int} {kf p lo : Nat} {cap : Array Value} {W W' : World} (h : LeadOK Cn dd ys kf cap p lo W) (k : Goes p lo W W') : LeadOK Cn dd ys kf cap p lo W' := ⟨h.1, fun W2 h2 => h.2 W2 (k.trans h2)⟩

/-- What a way to make a map of a sequence answers: the module from which it leads has the number X and the units xl. -/
def MapC (GA : Option Addr → Option Addr → Prop) (mf : Nat) (N : Nat) (us : List Int) (X : Nat → Nat → Nat → Nat) (xl : Nat → Nat → Nat → List Int) (Cn : Nat → Nat → Nat → Int → List Int → Prop) (dd : Int → Int) (ys : Nat → Nat → Nat → Int → List Int → List Int) (w : World) : Prop :=
  (∀ args w, (callFunc mf args).run Tryz.prog w = .ok (.enter mf args) w) ∧ ∀ (A U : Option Addr) (c c1 M K Q : Nat) (A1 : Option Addr) (n1 : Nat) (A2 : Option Addr) (n2 lo : Nat) (W : World), Ex w W → GA A U → lo ≤ W.heap.size → SeqF M K Q → M ≤ 12 → IntsW W U us → IntsW W A1 (rdL us K) → IntsW W A2 (rdL us Q) →
    Calls Tryz.prog mf #[.agg #[.slice A N c, .int .i64 (K : Int), .slice A1 N n1, .int .i64 (M : Int), .slice U N c1, .int .i64 (Q : Int), .slice A2 N n2]] W fun e w' => ∃ AX nX Y AY lY nY more kf cap, e = .returned (.agg #[.int .i64 (X M K Q : Int), .slice AX (xl M K Q).length nX, .int .i64 Y, .slice AY lY nY, .int .i64 more, .func (.func kf) #[] cap]) ∧ Ex W w' ∧ ((AX = A1 ∧ xl M K Q = rdL us K) ∨ (AX = U ∧ xl M K Q = us) ∨ (AX = A2 ∧ xl M K Q = rdL us Q)) ∧ LeadOK (Cn M K Q) dd (ys M K Q) kf cap w.heap.size lo w'

/-- Short lists of small numbers. -/
def ShortL (_ : Int) (fs : List Int) : Prop := fs.length ≤ 343 ∧ InR 12 fs
theorem ShortL.big {n : Int} {fs : List Int} (h : ShortL n fs) : InR 1048576 fs := fun i hi => ⟨(h.2 i hi).1, by have := (h.2 i hi).2; omega⟩

set_option maxRecDepth 100000 in
set_option maxHeartbeats 2000000 in
theorem embedding1_ex (S Q c1 : Nat) (Fa : Option Addr) (n : Int) (fs : List Int) (x0 x1 x2 x3 x4 x6 : Value) (w : World) (hS : Has w S 75 #[x0, x1, x2, x3, x4, .int .i64 (Q : Int), x6]) (hX : IntsW w Fa fs) (hc : ShortL n fs) (hq0 : 0 < Q) (hq : Q ≤ 12) :
    Calls Tryz.prog 121 #[.agg #[.int .i64 n, .slice Fa fs.length c1], .pointer (some ⟨S, 0, none⟩)] w fun e w' => ∃ C0 n0, e = .returned (.agg #[.int .i64 n, .slice C0 (tmL fs Q).length n0]) ∧ Ex w w' ∧ OwnL w' w.heap.size w'.heap.size C0 (tmL fs Q) := by
  have e0 : Ex w ((w.alloc (.cells #[.int .i64 n, .slice Fa fs.length c1] 33)).alloc (.cells #[.int .i64 0, .slice none 0 0] 33)) := ((Ex.refl w).alloc _).alloc _
  have b0 : Has ((w.alloc (.cells #[.int .i64 n, .slice Fa fs.length c1] 33)).alloc (.cells #[.int .i64 0, .slice none 0 0] 33)) (w.heap.size) 33 #[.int .i64 n, .slice Fa fs.length c1] := ((Has.newAt (w := w) (e := 33) (cs := #[.int .i64 n, .slice Fa fs.length c1]) (k := w.heap.size) (by simp)).alloc _)
  have b1 : Has ((w.alloc (.cells #[.int .i64 n, .slice Fa fs.length c1] 33)).alloc (.cells #[.int .i64 0, .slice none 0 0] 33)) (w.heap.size + 1) 33 #[.int .i64 0, .slice none 0 0] := (Has.newAt (w := (w.alloc (.cells #[.int .i64 n, .slice Fa fs.length c1] 33))) (e := 33) (cs := #[.int .i64 0, .slice none 0 0]) (k := w.heap.size + 1) (by simp))
  have HCH := Lib.hid (changed_factor Fa n fs Q c1 _ (hX.ex e0) hc.1 hc.big hq0 hq)
  have HL : Hid ((tmL fs Q).length = fs.length) := Lib.hid tmL_len
  obtain ⟨ys, hys⟩ : ∃ ys, tmL fs Q = ys := ⟨_, rfl⟩
  rw [hys] at HCH HL ⊢
  have HE0 := Lib.hid e0
  have HB1 := Lib.hid b1
  have k0 := b0.cell 0
  have k1 := b0.cell 1
  have k5 := (hS.ex e0).cell 5
  have hlt := b1.lt
  have hlw := e0.size
  clear hS hX hc b0 b1 e0 hys
  go_enter Tryz.func121, Tryz.ntmps121
  go_wp2_with fail
  generalize ((w.alloc (.cells #[.int .i64 n, .slice Fa fs.length c1] 33)).alloc (.cells #[.int .i64 0, .slice none 0 0] 33)) = W0 at *
  refine HCH.out.mono ?_
  rintro e W1 ⟨A5, n5, rfl, he1, ho1⟩
  have HB11 := Lib.hid (HB1.out.ex he1)
  have c0 := HB11.out.cell 0
  have c0' := HB11.out.cell 1
  have f0 := HB11.out.free 0
  have f1 := HB11.out.free 1
  have HE1 := Lib.hid (HE0.out.trans he1)
  have HO1 := Lib.hid ho1
  clear he1 ho1 k0 k1 k5
  go_wp2_with fail
  have H4 := HB11.out.put2 (u := .int .i64 n) (v := .slice A5 fs.length n5)
  have c4 := H4.cell 0
  have c4' := H4.cell 1
  refine bodyPost_ret (v := .agg #[.int .i64 n, .slice A5 fs.length n5]) (by simp [results, Tryz.results121, go_sem, c4, c4']) rfl ⟨A5, n5, by rw [HL.out], (HE1.out.setCell (by show w.heap.size ≤ w.heap.size + 1; omega) _).setCell (by show w.heap.size ≤ w.heap.size + 1; omega) _, ?_⟩
  exact ((HO1.out.above (Only.set _ _ _ _) hlt).above (Only.set _ _ _ _) hlt).mono hlw (by simp) (Nat.le_refl _)

set_option maxRecDepth 100000 in
set_option maxHeartbeats 2000000 in
theorem reduction1_ex (S Q c1 : Nat) (Fa : Option Addr) (n : Int) (fs : List Int) (x0 x1 x2 x3 x4 x6 : Value) (w : World) (hS : Has w S 75 #[x0, x1, x2, x3, x4, .int .i64 (Q : Int), x6]) (hX : IntsW w Fa fs) (hc : ShortL n fs) (hq0 : 0 < Q) (hq : Q ≤ 12) :
    Calls Tryz.prog 123 #[.agg #[.int .i64 n, .slice Fa fs.length c1], .pointer (some ⟨S, 0, none⟩)] w fun e w' => ∃ C0 n0, e = .returned (.agg #[.int .i64 n, .slice C0 (rsL fs Q).length n0]) ∧ Ex w w' ∧ OwnL w' w.heap.size w'.heap.size C0 (rsL fs Q) := by
  have e0 : Ex w ((w.alloc (.cells #[.int .i64 n, .slice Fa fs.length c1] 33)).alloc (.cells #[.int .i64 0, .slice none 0 0] 33)) := ((Ex.refl w).alloc _).alloc _
  have b0 : Has ((w.alloc (.cells #[.int .i64 n, .slice Fa fs.length c1] 33)).alloc (.cells #[.int .i64 0, .slice none 0 0] 33)) (w.heap.size) 33 #[.int .i64 n, .slice Fa fs.length c1] := ((Has.newAt (w := w) (e := 33) (cs := #[.int .i64 n, .slice Fa fs.length c1]) (k := w.heap.size) (by simp)).alloc _)
  have b1 : Has ((w.alloc (.cells #[.int .i64 n, .slice Fa fs.length c1] 33)).alloc (.cells #[.int .i64 0, .slice none 0 0] 33)) (w.heap.size + 1) 33 #[.int .i64 0, .slice none 0 0] := (Has.newAt (w := (w.alloc (.cells #[.int .i64 n, .slice Fa fs.length c1] 33))) (e := 33) (cs := #[.int .i64 0, .slice none 0 0]) (k := w.heap.size + 1) (by simp))
  have HCH := Lib.hid (changed_modulus Fa n fs Q c1 _ (hX.ex e0) hc.1 hc.big hq0 hq)
  have HL : Hid ((rsL fs Q).length = fs.length) := Lib.hid rsL_len
  obtain ⟨ys, hys⟩ : ∃ ys, rsL fs Q = ys := ⟨_, rfl⟩
  rw [hys] at HCH HL ⊢
  have HE0 := Lib.hid e0
  have HB1 := Lib.hid b1
  have k0 := b0.cell 0
  have k1 := b0.cell 1
  have k5 := (hS.ex e0).cell 5
  have hlt := b1.lt
  have hlw := e0.size
  clear hS hX hc b0 b1 e0 hys
  go_enter Tryz.func123, Tryz.ntmps123
  go_wp2_with fail
  generalize ((w.alloc (.cells #[.int .i64 n, .slice Fa fs.length c1] 33)).alloc (.cells #[.int .i64 0, .slice none 0 0] 33)) = W0 at *
  refine HCH.out.mono ?_
  rintro e W1 ⟨A5, n5, rfl, he1, ho1⟩
  have HB11 := Lib.hid (HB1.out.ex he1)
  have c0 := HB11.out.cell 0
  have c0' := HB11.out.cell 1
  have f0 := HB11.out.free 0
  have f1 := HB11.out.free 1
  have HE1 := Lib.hid (HE0.out.trans he1)
  have HO1 := Lib.hid ho1
  clear he1 ho1 k0 k1 k5
  go_wp2_with fail
  have H4 := HB11.out.put2 (u := .int .i64 n) (v := .slice A5 fs.length n5)
  have c4 := H4.cell 0
  have c4' := H4.cell 1
  refine bodyPost_ret (v := .agg #[.int .i64 n, .slice A5 fs.length n5]) (by simp [results, Tryz.results123, go_sem, c4, c4']) rfl ⟨A5, n5, by rw [HL.out], (HE1.out.setCell (by show w.heap.size ≤ w.heap.size + 1; omega) _).setCell (by show w.heap.size ≤ w.heap.size + 1; omega) _, ?_⟩
  exact ((HO1.out.above (Only.set _ _ _ _) hlt).above (Only.set _ _ _ _) hlt).mono hlw (by simp) (Nat.le_refl _)

set_option maxRecDepth 100000 in
set_option maxHeartbeats 2000000 in
theorem lifting1_ex (c1 : Nat) (Fa : Option Addr) (n : Int) (fs : List Int) (w : World) (hX : IntsW w Fa fs) (hc : ShortL n fs) :
    Calls Tryz.prog 165 #[.agg #[.int .i64 n, .slice Fa fs.length c1]] w fun e w' => ∃ C0 n0, e = .returned (.agg #[.int .i64 n, .slice C0 (tmL fs 1).length n0]) ∧ Ex w w' ∧ OwnL w' w.heap.size w'.heap.size C0 (tmL fs 1) := by
  have e0 : Ex w ((w.alloc (.cells #[.int .i64 n, .slice Fa fs.length c1] 33)).alloc (.cells #[.int .i64 0, .slice none 0 0] 33)) := ((Ex.refl w).alloc _).alloc _
  have b0 : Has ((w.alloc (.cells #[.int .i64 n, .slice Fa fs.length c1] 33)).alloc (.cells #[.int .i64 0, .slice none 0 0] 33)) (w.heap.size) 33 #[.int .i64 n, .slice Fa fs.length c1] := ((Has.newAt (w := w) (e := 33) (cs := #[.int .i64 n, .slice Fa fs.length c1]) (k := w.heap.size) (by simp)).alloc _)
  have b1 : Has ((w.alloc (.cells #[.int .i64 n, .slice Fa fs.length c1] 33)).alloc (.cells #[.int .i64 0, .slice none 0 0] 33)) (w.heap.size + 1) 33 #[.int .i64 0, .slice none 0 0] := (Has.newAt (w := (w.alloc (.cells #[.int .i64 n, .slice Fa fs.length c1] 33))) (e := 33) (cs := #[.int .i64 0, .slice none 0 0]) (k := w.heap.size + 1) (by simp))
  have HCH := Lib.hid (changed_factor Fa n fs 1 c1 _ (hX.ex e0) hc.1 hc.big (by decide) (by decide))
  have HL : Hid ((tmL fs 1).length = fs.length) := Lib.hid tmL_len
  obtain ⟨ys, hys⟩ : ∃ ys, tmL fs 1 = ys := ⟨_, rfl⟩
  rw [hys] at HCH HL ⊢
  have HE0 := Lib.hid e0
  have HB1 := Lib.hid b1
  have k0 := b0.cell 0
  have k1 := b0.cell 1
  have hlt := b1.lt
  have hlw := e0.size
  clear hX hc b0 b1 e0 hys
  go_enter Tryz.func165, Tryz.ntmps165
  go_wp2_with fail
  generalize ((w.alloc (.cells #[.int .i64 n, .slice Fa fs.length c1] 33)).alloc (.cells #[.int .i64 0, .slice none 0 0] 33)) = W0 at *
  refine HCH.out.mono ?_
  rintro e W1 ⟨A5, n5, rfl, he1, ho1⟩
  have HB11 := Lib.hid (HB1.out.ex he1)
  have c0 := HB11.out.cell 0
  have c0' := HB11.out.cell 1
  have f0 := HB11.out.free 0
  have f1 := HB11.out.free 1
  have HE1 := Lib.hid (HE0.out.trans he1)
  have HO1 := Lib.hid ho1
  clear he1 ho1 k0 k1 
  go_wp2_with fail
  have H4 := HB11.out.put2 (u := .int .i64 n) (v := .slice A5 fs.length n5)
  have c4 := H4.cell 0
  have c4' := H4.cell 1
  refine bodyPost_ret (v := .agg #[.int .i64 n, .slice A5 fs.length n5]) (by simp [results, Tryz.results165, go_sem, c4, c4']) rfl ⟨A5, n5, by rw [HL.out], (HE1.out.setCell (by show w.heap.size ≤ w.heap.size + 1; omega) _).setCell (by show w.heap.size ≤ w.heap.size + 1; omega) _, ?_⟩
  exact ((HO1.out.above (Only.set _ _ _ _) hlt).above (Only.set _ _ _ _) hlt).mono hlw (by simp) (Nat.le_refl _)

set_option maxRecDepth 100000 in
set_option maxHeartbeats 4000000 in
theorem embedding_map (N : Nat) (us : List Int) (hl : us.length = N) (w0 : World) : MapC (fun _ _ => True) 60 N us (fun _ K _ => K) (fun _ K _ => rdL us K) (fun _ _ _ => ShortL) (fun n => n) (fun _ _ Q _ fs => tmL fs Q) w0 := by
  refine ⟨enters_of Tryz.func60 (by kernel_rfl) rfl, fun A U c c1 M K Q A1 n1 A2 n2 lo w _ _ hlo hS hM hU h1 h2 => ?_⟩
  have hmf : ∀ (fn : Fn) (first cap : Array Value) (w : World), (Instr.makeFunc fn first cap).run Tryz.prog w = .ok (.func fn first cap) w := fun _ _ _ _ => rfl
  have hq2 := hS.q2
  have hQM : Q ≤ M := by have := hS.div; rw [← this]; exact Nat.div_le_self _ _
  clear hU h1 h2
  show Calls Tryz.prog 60 _ w fun e w' => ∃ AX nX Y AY lY nY more kf cap, e = .returned (.agg #[.int .i64 (K : Int), .slice AX (rdL us K).length nX, .int .i64 Y, .slice AY lY nY, .int .i64 more, .func (.func kf) #[] cap]) ∧ Ex w w' ∧ ((AX = A1 ∧ rdL us K = rdL us K) ∨ (AX = U ∧ rdL us K = us) ∨ (AX = A2 ∧ rdL us K = rdL us Q)) ∧ LeadOK ShortL (fun n => n) (fun _ fs => tmL fs Q) kf cap w0.heap.size lo w'
  rw [show (rdL us K).length = N by rw [rdL_len, hl]]
  have e0 : Ex w ((w.alloc (.cells #[.slice A N c, .int .i64 (K : Int), .slice A1 N n1, .int .i64 (M : Int), .slice U N c1, .int .i64 (Q : Int), .slice A2 N n2] 75)).alloc (.cells #[.int .i64 0, .slice none 0 0, .int .i64 0, .slice none 0 0, .int .i64 0, .nilFunc] 69)) := ((Ex.refl w).alloc _).alloc _
  have b0 : Has ((w.alloc (.cells #[.slice A N c, .int .i64 (K : Int), .slice A1 N n1, .int .i64 (M : Int), .slice U N c1, .int .i64 (Q : Int), .slice A2 N n2] 75)).alloc (.cells #[.int .i64 0, .slice none 0 0, .int .i64 0, .slice none 0 0, .int .i64 0, .nilFunc] 69)) (w.heap.size) 75 #[.slice A N c, .int .i64 (K : Int), .slice A1 N n1, .int .i64 (M : Int), .slice U N c1, .int .i64 (Q : Int), .slice A2 N n2] := ((Has.newAt (w := w) (e := 75) (cs := #[.slice A N c, .int .i64 (K : Int), .slice A1 N n1, .int .i64 (M : Int), .slice U N c1, .int .i64 (Q : Int), .slice A2 N n2]) (k := w.heap.size) (by simp)).alloc _)
  have b1 : Has ((w.alloc (.cells #[.slice A N c, .int .i64 (K : Int), .slice A1 N n1, .int .i64 (M : Int), .slice U N c1, .int .i64 (Q : Int), .slice A2 N n2] 75)).alloc (.cells #[.int .i64 0, .slice none 0 0, .int .i64 0, .slice none 0 0, .int .i64 0, .nilFunc] 69)) (w.heap.size + 1) 69 #[.int .i64 0, .slice none 0 0, .int .i64 0, .slice none 0 0, .int .i64 0, .nilFunc] := (Has.newAt (w := (w.alloc (.cells #[.slice A N c, .int .i64 (K : Int), .slice A1 N n1, .int .i64 (M : Int), .slice U N c1, .int .i64 (Q : Int), .slice A2 N n2] 75))) (e := 69) (cs := #[.int .i64 0, .slice none 0 0, .int .i64 0, .slice none 0 0, .int .i64 0, .nilFunc]) (k := w.heap.size + 1) (by simp))
  have HLD : Hid (∀ W, Has W w.heap.size 75 #[.slice A N c, .int .i64 (K : Int), .slice A1 N n1, .int .i64 (M : Int), .slice U N c1, .int .i64 (Q : Int), .slice A2 N n2] → LeadOK ShortL (fun n => n) (fun _ fs => tmL fs Q) 121 #[.pointer (some ⟨w.heap.size, 0, none⟩)] w0.heap.size lo W) := Lib.hid (fun W hB => ⟨enters_of Tryz.func121 (by kernel_rfl) rfl, fun W' he Fa n fs cc hI hc => embedding1_ex w.heap.size Q cc Fa n fs _ _ _ _ _ _ W' (he.has hB (.inr hlo)) hI hc (by omega) (by omega)⟩)
  have hsf := fun (a : Addr) (c : Array Value) (w : World) => run_store Tryz.prog w a (.func (.func 121) #[] c) .plain rfl
  have k0 := b0.cell 0
  have k1 := b0.cell 1
  have k2 := b0.cell 2
  have k3 := b0.cell 3
  have k4 := b0.cell 4
  have k5 := b0.cell 5
  have k6 := b0.cell 6
  have d0 := b1.cell 0
  have f0 := b1.free 0
  have d1 := b1.cell 1
  have f1 := b1.free 1
  have d2 := b1.cell 2
  have f2 := b1.free 2
  have d3 := b1.cell 3
  have f3 := b1.free 3
  have d4 := b1.cell 4
  have f4 := b1.free 4
  have d5 := b1.cell 5
  have f5 := b1.free 5
  have E2 : Ex w ((w.alloc (.cells #[.slice A N c, .int .i64 (K : Int), .slice A1 N n1, .int .i64 (M : Int), .slice U N c1, .int .i64 (Q : Int), .slice A2 N n2] 75)).alloc (.cells #[.int .i64 (K : Int), .slice A1 N n1, .int .i64 (M : Int), .slice U N c1, .int .i64 0, .func (.func 121) #[] #[.pointer (some ⟨w.heap.size, 0, none⟩)]] 69)) := ((Ex.refl w).alloc _).alloc _
  have H0 : Has ((w.alloc (.cells #[.slice A N c, .int .i64 (K : Int), .slice A1 N n1, .int .i64 (M : Int), .slice U N c1, .int .i64 (Q : Int), .slice A2 N n2] 75)).alloc (.cells #[.int .i64 (K : Int), .slice A1 N n1, .int .i64 (M : Int), .slice U N c1, .int .i64 0, .func (.func 121) #[] #[.pointer (some ⟨w.heap.size, 0, none⟩)]] 69)) w.heap.size 75 #[.slice A N c, .int .i64 (K : Int), .slice A1 N n1, .int .i64 (M : Int), .slice U N c1, .int .i64 (Q : Int), .slice A2 N n2] := (Has.newAt (by simp)).alloc _
  have H4 : Has ((w.alloc (.cells #[.slice A N c, .int .i64 (K : Int), .slice A1 N n1, .int .i64 (M : Int), .slice U N c1, .int .i64 (Q : Int), .slice A2 N n2] 75)).alloc (.cells #[.int .i64 (K : Int), .slice A1 N n1, .int .i64 (M : Int), .slice U N c1, .int .i64 0, .func (.func 121) #[] #[.pointer (some ⟨w.heap.size, 0, none⟩)]] 69)) (w.heap.size + 1) 69 #[.int .i64 (K : Int), .slice A1 N n1, .int .i64 (M : Int), .slice U N c1, .int .i64 0, .func (.func 121) #[] #[.pointer (some ⟨w.heap.size, 0, none⟩)]] := Has.newAt (by simp)
  have HE2 := Lib.hid E2
  have HH0 := Lib.hid H0
  have HH4 := Lib.hid H4
  clear hS hl b0 b1 e0 E2 H0 H4 hlo
  go_enter Tryz.func60, Tryz.ntmps60
  go_wp2_with fail
  have e0 := HH4.out.cell 0
  have e1 := HH4.out.cell 1
  have e2 := HH4.out.cell 2
  have e3 := HH4.out.cell 3
  have e4 := HH4.out.cell 4
  have e5 := HH4.out.cell 5
  exact bodyPost_ret (v := .agg #[.int .i64 (K : Int), .slice A1 N n1, .int .i64 (M : Int), .slice U N c1, .int .i64 0, .func (.func 121) #[] #[.pointer (some ⟨w.heap.size, 0, none⟩)]]) (by simp [results, Tryz.results60, go_sem, e0, e1, e2, e3, e4, e5]) rfl ⟨A1, n1, _, _, _, _, _, _, _, rfl, HE2.out, .inl (by first | exact ⟨rfl, rfl⟩ | exact ⟨rfl, trivial⟩ | rfl), HLD.out _ HH0.out⟩

set_option maxRecDepth 100000 in
set_option maxHeartbeats 4000000 in
theorem reduction_map (N : Nat) (us : List Int) (hl : us.length = N) (w0 : World) : MapC (fun _ _ => True) 61 N us (fun M _ _ => M) (fun _ _ _ => us) (fun _ _ _ => ShortL) (fun n => n) (fun _ _ Q _ fs => rsL fs Q) w0 := by
  refine ⟨enters_of Tryz.func61 (by kernel_rfl) rfl, fun A U c c1 M K Q A1 n1 A2 n2 lo w _ _ hlo hS hM hU h1 h2 => ?_⟩
  have hmf : ∀ (fn : Fn) (first cap : Array Value) (w : World), (Instr.makeFunc fn first cap).run Tryz.prog w = .ok (.func fn first cap) w := fun _ _ _ _ => rfl
  have hq2 := hS.q2
  have hQM : Q ≤ M := by have := hS.div; rw [← this]; exact Nat.div_le_self _ _
  clear hU h1 h2
  show Calls Tryz.prog 61 _ w fun e w' => ∃ AX nX Y AY lY nY more kf cap, e = .returned (.agg #[.int .i64 (M : Int), .slice AX (us).length nX, .int .i64 Y, .slice AY lY nY, .int .i64 more, .func (.func kf) #[] cap]) ∧ Ex w w' ∧ ((AX = A1 ∧ us = rdL us K) ∨ (AX = U ∧ us = us) ∨ (AX = A2 ∧ us = rdL us Q)) ∧ LeadOK ShortL (fun n => n) (fun _ fs => rsL fs Q) kf cap w0.heap.size lo w'
  rw [show (us).length = N by exact hl]
  have e0 : Ex w ((w.alloc (.cells #[.slice A N c, .int .i64 (K : Int), .slice A1 N n1, .int .i64 (M : Int), .slice U N c1, .int .i64 (Q : Int), .slice A2 N n2] 75)).alloc (.cells #[.int .i64 0, .slice none 0 0, .int .i64 0, .slice none 0 0, .int .i64 0, .nilFunc] 69)) := ((Ex.refl w).alloc _).alloc _
  have b0 : Has ((w.alloc (.cells #[.slice A N c, .int .i64 (K : Int), .slice A1 N n1, .int .i64 (M : Int), .slice U N c1, .int .i64 (Q : Int), .slice A2 N n2] 75)).alloc (.cells #[.int .i64 0, .slice none 0 0, .int .i64 0, .slice none 0 0, .int .i64 0, .nilFunc] 69)) (w.heap.size) 75 #[.slice A N c, .int .i64 (K : Int), .slice A1 N n1, .int .i64 (M : Int), .slice U N c1, .int .i64 (Q : Int), .slice A2 N n2] := ((Has.newAt (w := w) (e := 75) (cs := #[.slice A N c, .int .i64 (K : Int), .slice A1 N n1, .int .i64 (M : Int), .slice U N c1, .int .i64 (Q : Int), .slice A2 N n2]) (k := w.heap.size) (by simp)).alloc _)
  have b1 : Has ((w.alloc (.cells #[.slice A N c, .int .i64 (K : Int), .slice A1 N n1, .int .i64 (M : Int), .slice U N c1, .int .i64 (Q : Int), .slice A2 N n2] 75)).alloc (.cells #[.int .i64 0, .slice none 0 0, .int .i64 0, .slice none 0 0, .int .i64 0, .nilFunc] 69)) (w.heap.size + 1) 69 #[.int .i64 0, .slice none 0 0, .int .i64 0, .slice none 0 0, .int .i64 0, .nilFunc] := (Has.newAt (w := (w.alloc (.cells #[.slice A N c, .int .i64 (K : Int), .slice A1 N n1, .int .i64 (M : Int), .slice U N c1, .int .i64 (Q : Int), .slice A2 N n2] 75))) (e := 69) (cs := #[.int .i64 0, .slice none 0 0, .int .i64 0, .slice none 0 0, .int .i64 0, .nilFunc]) (k := w.heap.size + 1) (by simp))
  have HLD : Hid (∀ W, Has W w.heap.size 75 #[.slice A N c, .int .i64 (K : Int), .slice A1 N n1, .int .i64 (M : Int), .slice U N c1, .int .i64 (Q : Int), .slice A2 N n2] → LeadOK ShortL (fun n => n) (fun _ fs => rsL fs Q) 123 #[.pointer (some ⟨w.heap.size, 0, none⟩)] w0.heap.size lo W) := Lib.hid (fun W hB => ⟨enters_of Tryz.func123 (by kernel_rfl) rfl, fun W' he Fa n fs cc hI hc => reduction1_ex w.heap.size Q cc Fa n fs _ _ _ _ _ _ W' (he.has hB (.inr hlo)) hI hc (by omega) (by omega)⟩)
  have hsf := fun (a : Addr) (c : Array Value) (w : World) => run_store Tryz.prog w a (.func (.func 123) #[] c) .plain rfl
  have k0 := b0.cell 0
  have k1 := b0.cell 1
  have k2 := b0.cell 2
  have k3 := b0.cell 3
  have k4 := b0.cell 4
  have k5 := b0.cell 5
  have k6 := b0.cell 6
  have d0 := b1.cell 0
  have f0 := b1.free 0
  have d1 := b1.cell 1
  have f1 := b1.free 1
  have d2 := b1.cell 2
  have f2 := b1.free 2
  have d3 := b1.cell 3
  have f3 := b1.free 3
  have d4 := b1.cell 4
  have f4 := b1.free 4
  have d5 := b1.cell 5
  have f5 := b1.free 5
  have E2 : Ex w ((w.alloc (.cells #[.slice A N c, .int .i64 (K : Int), .slice A1 N n1, .int .i64 (M : Int), .slice U N c1, .int .i64 (Q : Int), .slice A2 N n2] 75)).alloc (.cells #[.int .i64 (M : Int), .slice U N c1, .int .i64 (Q : Int), .slice A2 N n2, .int .i64 0, .func (.func 123) #[] #[.pointer (some ⟨w.heap.size, 0, none⟩)]] 69)) := ((Ex.refl w).alloc _).alloc _
  have H0 : Has ((w.alloc (.cells #[.slice A N c, .int .i64 (K : Int), .slice A1 N n1, .int .i64 (M : Int), .slice U N c1, .int .i64 (Q : Int), .slice A2 N n2] 75)).alloc (.cells #[.int .i64 (M : Int), .slice U N c1, .int .i64 (Q : Int), .slice A2 N n2, .int .i64 0, .func (.func 123) #[] #[.pointer (some ⟨w.heap.size, 0, none⟩)]] 69)) w.heap.size 75 #[.slice A N c, .int .i64 (K : Int), .slice A1 N n1, .int .i64 (M : Int), .slice U N c1, .int .i64 (Q : Int), .slice A2 N n2] := (Has.newAt (by simp)).alloc _
  have H4 : Has ((w.alloc (.cells #[.slice A N c, .int .i64 (K : Int), .slice A1 N n1, .int .i64 (M : Int), .slice U N c1, .int .i64 (Q : Int), .slice A2 N n2] 75)).alloc (.cells #[.int .i64 (M : Int), .slice U N c1, .int .i64 (Q : Int), .slice A2 N n2, .int .i64 0, .func (.func 123) #[] #[.pointer (some ⟨w.heap.size, 0, none⟩)]] 69)) (w.heap.size + 1) 69 #[.int .i64 (M : Int), .slice U N c1, .int .i64 (Q : Int), .slice A2 N n2, .int .i64 0, .func (.func 123) #[] #[.pointer (some ⟨w.heap.size, 0, none⟩)]] := Has.newAt (by simp)
  have HE2 := Lib.hid E2
  have HH0 := Lib.hid H0
  have HH4 := Lib.hid H4
  clear hS hl b0 b1 e0 E2 H0 H4 hlo
  go_enter Tryz.func61, Tryz.ntmps61
  go_wp2_with fail
  have e0 := HH4.out.cell 0
  have e1 := HH4.out.cell 1
  have e2 := HH4.out.cell 2
  have e3 := HH4.out.cell 3
  have e4 := HH4.out.cell 4
  have e5 := HH4.out.cell 5
  exact bodyPost_ret (v := .agg #[.int .i64 (M : Int), .slice U N c1, .int .i64 (Q : Int), .slice A2 N n2, .int .i64 0, .func (.func 123) #[] #[.pointer (some ⟨w.heap.size, 0, none⟩)]]) (by simp [results, Tryz.results61, go_sem, e0, e1, e2, e3, e4, e5]) rfl ⟨U, c1, _, _, _, _, _, _, _, rfl, HE2.out, .inr (.inl (by first | exact ⟨rfl, rfl⟩ | exact ⟨rfl, trivial⟩ | rfl)), HLD.out _ HH0.out⟩

set_option maxRecDepth 100000 in
set_option maxHeartbeats 4000000 in
theorem lifting_map (N : Nat) (us : List Int) (hl : us.length = N) (w0 : World) : MapC (fun _ _ => True) 106 N us (fun _ _ Q => Q) (fun _ _ Q => rdL us Q) (fun _ _ _ => ShortL) (fun n => n) (fun _ _ _ _ fs => tmL fs 1) w0 := by
  refine ⟨enters_of Tryz.func106 (by kernel_rfl) rfl, fun A U c c1 M K Q A1 n1 A2 n2 lo w _ _ hlo hS hM hU h1 h2 => ?_⟩
  have hmf : ∀ (fn : Fn) (first cap : Array Value) (w : World), (Instr.makeFunc fn first cap).run Tryz.prog w = .ok (.func fn first cap) w := fun _ _ _ _ => rfl
  have hq2 := hS.q2
  have hQM : Q ≤ M := by have := hS.div; rw [← this]; exact Nat.div_le_self _ _
  clear hU h1 h2
  show Calls Tryz.prog 106 _ w fun e w' => ∃ AX nX Y AY lY nY more kf cap, e = .returned (.agg #[.int .i64 (Q : Int), .slice AX (rdL us Q).length nX, .int .i64 Y, .slice AY lY nY, .int .i64 more, .func (.func kf) #[] cap]) ∧ Ex w w' ∧ ((AX = A1 ∧ rdL us Q = rdL us K) ∨ (AX = U ∧ rdL us Q = us) ∨ (AX = A2 ∧ rdL us Q = rdL us Q)) ∧ LeadOK ShortL (fun n => n) (fun _ fs => tmL fs 1) kf cap w0.heap.size lo w'
  rw [show (rdL us Q).length = N by rw [rdL_len, hl]]
  have e0 : Ex w ((w.alloc (.cells #[.slice A N c, .int .i64 (K : Int), .slice A1 N n1, .int .i64 (M : Int), .slice U N c1, .int .i64 (Q : Int), .slice A2 N n2] 75)).alloc (.cells #[.int .i64 0, .slice none 0 0, .int .i64 0, .slice none 0 0, .int .i64 0, .nilFunc] 69)) := ((Ex.refl w).alloc _).alloc _
  have b0 : Has ((w.alloc (.cells #[.slice A N c, .int .i64 (K : Int), .slice A1 N n1, .int .i64 (M : Int), .slice U N c1, .int .i64 (Q : Int), .slice A2 N n2] 75)).alloc (.cells #[.int .i64 0, .slice none 0 0, .int .i64 0, .slice none 0 0, .int .i64 0, .nilFunc] 69)) (w.heap.size) 75 #[.slice A N c, .int .i64 (K : Int), .slice A1 N n1, .int .i64 (M : Int), .slice U N c1, .int .i64 (Q : Int), .slice A2 N n2] := ((Has.newAt (w := w) (e := 75) (cs := #[.slice A N c, .int .i64 (K : Int), .slice A1 N n1, .int .i64 (M : Int), .slice U N c1, .int .i64 (Q : Int), .slice A2 N n2]) (k := w.heap.size) (by simp)).alloc _)
  have b1 : Has ((w.alloc (.cells #[.slice A N c, .int .i64 (K : Int), .slice A1 N n1, .int .i64 (M : Int), .slice U N c1, .int .i64 (Q : Int), .slice A2 N n2] 75)).alloc (.cells #[.int .i64 0, .slice none 0 0, .int .i64 0, .slice none 0 0, .int .i64 0, .nilFunc] 69)) (w.heap.size + 1) 69 #[.int .i64 0, .slice none 0 0, .int .i64 0, .slice none 0 0, .int .i64 0, .nilFunc] := (Has.newAt (w := (w.alloc (.cells #[.slice A N c, .int .i64 (K : Int), .slice A1 N n1, .int .i64 (M : Int), .slice U N c1, .int .i64 (Q : Int), .slice A2 N n2] 75))) (e := 69) (cs := #[.int .i64 0, .slice none 0 0, .int .i64 0, .slice none 0 0, .int .i64 0, .nilFunc]) (k := w.heap.size + 1) (by simp))
  have HLD : Hid (∀ W, LeadOK ShortL (fun n => n) (fun _ fs => tmL fs 1) 165 #[] w0.heap.size lo W) := Lib.hid (fun W => ⟨enters_of Tryz.func165 (by kernel_rfl) rfl, fun W' _ Fa n fs cc hI hc => lifting1_ex  cc Fa n fs  W'  hI hc⟩)
  have hsf := fun (a : Addr) (c : Array Value) (w : World) => run_store Tryz.prog w a (.func (.func 165) #[] c) .plain rfl
  have k0 := b0.cell 0
  have k1 := b0.cell 1
  have k2 := b0.cell 2
  have k3 := b0.cell 3
  have k4 := b0.cell 4
  have k5 := b0.cell 5
  have k6 := b0.cell 6
  have d0 := b1.cell 0
  have f0 := b1.free 0
  have d1 := b1.cell 1
  have f1 := b1.free 1
  have d2 := b1.cell 2
  have f2 := b1.free 2
  have d3 := b1.cell 3
  have f3 := b1.free 3
  have d4 := b1.cell 4
  have f4 := b1.free 4
  have d5 := b1.cell 5
  have f5 := b1.free 5
  have E2 : Ex w ((w.alloc (.cells #[.slice A N c, .int .i64 (K : Int), .slice A1 N n1, .int .i64 (M : Int), .slice U N c1, .int .i64 (Q : Int), .slice A2 N n2] 75)).alloc (.cells #[.int .i64 (Q : Int), .slice A2 N n2, .int .i64 (M : Int), .slice U N c1, .int .i64 0, .func (.func 165) #[] #[]] 69)) := ((Ex.refl w).alloc _).alloc _
  have H0 : Has ((w.alloc (.cells #[.slice A N c, .int .i64 (K : Int), .slice A1 N n1, .int .i64 (M : Int), .slice U N c1, .int .i64 (Q : Int), .slice A2 N n2] 75)).alloc (.cells #[.int .i64 (Q : Int), .slice A2 N n2, .int .i64 (M : Int), .slice U N c1, .int .i64 0, .func (.func 165) #[] #[]] 69)) w.heap.size 75 #[.slice A N c, .int .i64 (K : Int), .slice A1 N n1, .int .i64 (M : Int), .slice U N c1, .int .i64 (Q : Int), .slice A2 N n2] := (Has.newAt (by simp)).alloc _
  have H4 : Has ((w.alloc (.cells #[.slice A N c, .int .i64 (K : Int), .slice A1 N n1, .int .i64 (M : Int), .slice U N c1, .int .i64 (Q : Int), .slice A2 N n2] 75)).alloc (.cells #[.int .i64 (Q : Int), .slice A2 N n2, .int .i64 (M : Int), .slice U N c1, .int .i64 0, .func (.func 165) #[] #[]] 69)) (w.heap.size + 1) 69 #[.int .i64 (Q : Int), .slice A2 N n2, .int .i64 (M : Int), .slice U N c1, .int .i64 0, .func (.func 165) #[] #[]] := Has.newAt (by simp)
  have HE2 := Lib.hid E2
  have HH0 := Lib.hid H0
  have HH4 := Lib.hid H4
  clear hS hl b0 b1 e0 E2 H0 H4 hlo
  go_enter Tryz.func106, Tryz.ntmps106
  go_wp2_with fail
  have e0 := HH4.out.cell 0
  have e1 := HH4.out.cell 1
  have e2 := HH4.out.cell 2
  have e3 := HH4.out.cell 3
  have e4 := HH4.out.cell 4
  have e5 := HH4.out.cell 5
  exact bodyPost_ret (v := .agg #[.int .i64 (Q : Int), .slice A2 N n2, .int .i64 (M : Int), .slice U N c1, .int .i64 0, .func (.func 165) #[] #[]]) (by simp [results, Tryz.results106, go_sem, e0, e1, e2, e3, e4, e5]) rfl ⟨A2, n2, _, _, _, _, _, _, _, rfl, HE2.out, .inr (.inr (by first | exact ⟨rfl, rfl⟩ | exact ⟨rfl, trivial⟩ | rfl)), HLD.out _ ⟩

set_option maxRecDepth 100000 in
set_option maxHeartbeats 4000000 in
theorem lifting_ex (N : Nat) (A U : Option Addr) (c c1 M K Q : Nat) (A1 : Option Addr) (n1 : Nat) (A2 : Option Addr) (n2 : Nat) (w : World) :
    Calls Tryz.prog 106 #[.agg #[.slice A N c, .int .i64 (K : Int), .slice A1 N n1, .int .i64 (M : Int), .slice U N c1, .int .i64 (Q : Int), .slice A2 N n2]] w fun e w' => e = .returned (.agg #[.int .i64 (Q : Int), .slice A2 N n2, .int .i64 (M : Int), .slice U N c1, .int .i64 0, .func (.func 165) #[] #[]]) ∧ Ex w w' := by
  have hmf : ∀ (fn : Fn) (first cap : Array Value) (w : World), (Instr.makeFunc fn first cap).run Tryz.prog w = .ok (.func fn first cap) w := fun _ _ _ _ => rfl
  have hsf := fun (a : Addr) (c : Array Value) (w : World) => run_store Tryz.prog w a (.func (.func 165) #[] c) .plain rfl
  have e0 : Ex w ((w.alloc (.cells #[.slice A N c, .int .i64 (K : Int), .slice A1 N n1, .int .i64 (M : Int), .slice U N c1, .int .i64 (Q : Int), .slice A2 N n2] 75)).alloc (.cells #[.int .i64 0, .slice none 0 0, .int .i64 0, .slice none 0 0, .int .i64 0, .nilFunc] 69)) := ((Ex.refl w).alloc _).alloc _
  have b0 : Has ((w.alloc (.cells #[.slice A N c, .int .i64 (K : Int), .slice A1 N n1, .int .i64 (M : Int), .slice U N c1, .int .i64 (Q : Int), .slice A2 N n2] 75)).alloc (.cells #[.int .i64 0, .slice none 0 0, .int .i64 0, .slice none 0 0, .int .i64 0, .nilFunc] 69)) (w.heap.size) 75 #[.slice A N c, .int .i64 (K : Int), .slice A1 N n1, .int .i64 (M : Int), .slice U N c1, .int .i64 (Q : Int), .slice A2 N n2] := ((Has.newAt (w := w) (e := 75) (cs := #[.slice A N c, .int .i64 (K : Int), .slice A1 N n1, .int .i64 (M : Int), .slice U N c1, .int .i64 (Q : Int), .slice A2 N n2]) (k := w.heap.size) (by simp)).alloc _)
  have b1 : Has ((w.alloc (.cells #[.slice A N c, .int .i64 (K : Int), .slice A1 N n1, .int .i64 (M : Int), .slice U N c1, .int .i64 (Q : Int), .slice A2 N n2] 75)).alloc (.cells #[.int .i64 0, .slice none 0 0, .int .i64 0, .slice none 0 0, .int .i64 0, .nilFunc] 69)) (w.heap.size + 1) 69 #[.int .i64 0, .slice none 0 0, .int .i64 0, .slice none 0 0, .int .i64 0, .nilFunc] := (Has.newAt (w := (w.alloc (.cells #[.slice A N c, .int .i64 (K : Int), .slice A1 N n1, .int .i64 (M : Int), .slice U N c1, .int .i64 (Q : Int), .slice A2 N n2] 75))) (e := 69) (cs := #[.int .i64 0, .slice none 0 0, .int .i64 0, .slice none 0 0, .int .i64 0, .nilFunc]) (k := w.heap.size + 1) (by simp))
  have k0 := b0.cell 0
  have k1 := b0.cell 1
  have k2 := b0.cell 2
  have k3 := b0.cell 3
  have k4 := b0.cell 4
  have k5 := b0.cell 5
  have k6 := b0.cell 6
  have d0 := b1.cell 0
  have f0 := b1.free 0
  have d1 := b1.cell 1
  have f1 := b1.free 1
  have d2 := b1.cell 2
  have f2 := b1.free 2
  have d3 := b1.cell 3
  have f3 := b1.free 3
  have d4 := b1.cell 4
  have f4 := b1.free 4
  have d5 := b1.cell 5
  have f5 := b1.free 5
  have E2 : Ex w ((w.alloc (.cells #[.slice A N c, .int .i64 (K : Int), .slice A1 N n1, .int .i64 (M : Int), .slice U N c1, .int .i64 (Q : Int), .slice A2 N n2] 75)).alloc (.cells #[.int .i64 (Q : Int), .slice A2 N n2, .int .i64 (M : Int), .slice U N c1, .int .i64 0, .func (.func 165) #[] #[]] 69)) := ((Ex.refl w).alloc _).alloc _
  have H4 : Has ((w.alloc (.cells #[.slice A N c, .int .i64 (K : Int), .slice A1 N n1, .int .i64 (M : Int), .slice U N c1, .int .i64 (Q : Int), .slice A2 N n2] 75)).alloc (.cells #[.int .i64 (Q : Int), .slice A2 N n2, .int .i64 (M : Int), .slice U N c1, .int .i64 0, .func (.func 165) #[] #[]] 69)) (w.heap.size + 1) 69 #[.int .i64 (Q : Int), .slice A2 N n2, .int .i64 (M : Int), .slice U N c1, .int .i64 0, .func (.func 165) #[] #[]] := Has.newAt (by simp)
  have HE2 := Lib.hid E2
  have HH4 := Lib.hid H4
  clear b0 b1 e0 E2 H4
  go_enter Tryz.func106, Tryz.ntmps106
  go_wp2_with fail
  have e0 := HH4.out.cell 0
  have e1 := HH4.out.cell 1
  have e2 := HH4.out.cell 2
  have e3 := HH4.out.cell 3
  have e4 := HH4.out.cell 4
  have e5 := HH4.out.cell 5
  exact bodyPost_ret (v := .agg #[.int .i64 (Q : Int), .slice A2 N n2, .int .i64 (M : Int), .slice U N c1, .int .i64 0, .func (.func 165) #[] #[]]) (by simp [results, Tryz.results106, go_sem, e0, e1, e2, e3, e4, e5]) rfl ⟨rfl, HE2.out⟩

end Go.Proofs.YtllkaoacfchibaaGreatDoor
