/- facesOf: the faces of a list, made by a machine with labels. -/
import Derived.IntWalk
import Derived.Test.YtcdijeeabgmgmaaGreatDoorMga
import Derived.Test.YtcdijeeabgmgmaaGreatDoorSj
namespace Go.Proofs.YtcdijeeabgmgmaaGreatDoor
open Go.RowKit

theorem infoF : (Tryz.prog.info? 174).map (fun i => (i.zero, i.size, i.bytes)) = some (some (.agg #[.int .i64 0, .slice none 0 0]), 2, 32) := by kernel_rfl

/-- The slice reads as xs, in a block ahead of lo or in one of numbers. -/
def IntsN (w : World) (lo : Nat) (A : Option Addr) (xs : List Int) : Prop :=
  xs = [] ∨ ∃ b o, A = some ⟨b, o, none⟩ ∧ (b < lo ∨ TyB w b) ∧ b < w.heap.size ∧ ∀ j, j < xs.length → w.cell? ⟨b, o + j, none⟩ = some (.int .i64 (nth xs j))
/-- The slice has i faces, in a row of the call's own: the factors F, the lists X, each of n elements. -/
def FcsW (w : World) (lo : Nat) (v : Value) (i n : Nat) (F : Nat → Int) (X : Nat → List Int) : Prop :=
  ∃ V : Nat → Value, w.ownsRow lo 174 2 v i ((List.range i).flatMap fun j => [.int .i64 (F j), V j]) ∧ ∀ j, j < i → ∃ A c, V j = .slice A n c ∧ IntsN w lo A (X j)
theorem news_two {w : World} {b : Nat} {T : TypeId} {x y : Value} (h : Has w b T #[x, y]) : ∀ j u, [x, y][j]? = some u → w.cell? ((⟨b, 0, none⟩ : Addr).add j) = some u := fun j u hj => by
  rw [Addr.add_lit, Nat.zero_add, h.cell j]
  simpa using hj
theorem one_two (s : Int) (A : Option Addr) (n c : Nat) : ∀ u ∈ [Value.int .i64 s, .slice A n c], u.oneCell' = true := fun u hu => by
  rcases List.mem_cons.1 hu with rfl | hu
  · rfl
  · rcases List.mem_cons.1 hu with rfl | hu
    · rfl
    · cases hu
section
variable {w w' : World} {lo n m : Nat} {A : Option Addr} {xs : List Int} {v v' : Value} {cs : List Value} {F : Nat → Int} {X : Nat → List Int} {i : Nat}
theorem IntsN.ints (h : IntsN w lo A xs) : IntsW w A xs := h.elim .inl fun ⟨b, o, h1, _, h2, h3⟩ => .inr ⟨b, o, h1, h2, h3⟩
theorem IntsN.ex (h : IntsN w lo A xs) (k : Ex w w') : IntsN w' lo A xs :=
  h.elim .inl fun ⟨b, o, h1, h4, h2, h3⟩ => .inr ⟨b, o, h1, h4.imp id fun h => h.ex k, Nat.lt_of_lt_of_le h2 k.size, fun j hj => (k.below.cell (p := ⟨b, o + j, none⟩) h2).trans (h3 j hj)⟩
theorem IntsN.low {b o : Nat} (h : IntsW w (some ⟨b, o, none⟩) xs) (hb : b < lo) : IntsN w lo (some ⟨b, o, none⟩) xs := by
  rcases h with h | ⟨b', o', e, h1, h2⟩
  · exact .inl h
  · simp only [Option.some.injEq, Addr.mk.injEq, and_true] at e
    obtain ⟨rfl, rfl⟩ := e
    exact .inr ⟨_, _, rfl, .inl hb, h1, h2⟩
theorem IntsN.typed {b o : Nat} (h : IntsW w (some ⟨b, o, none⟩) xs) (hb : TyB w b) : IntsN w lo (some ⟨b, o, none⟩) xs := by
  rcases h with h | ⟨b', o', e, h1, h2⟩
  · exact .inl h
  · simp only [Option.some.injEq, Addr.mk.injEq, and_true] at e
    obtain ⟨rfl, rfl⟩ := e
    exact .inr ⟨_, _, rfl, .inr hb, h1, h2⟩
theorem IntsN.grew (h : IntsN w lo A xs) (ho : w.ownsRow lo 174 2 v n cs) (hg : w.grownBy w' v.ownBlock) : IntsN w' lo A xs := by
  rcases h with h | ⟨b, o, h1, h4, h2, h3⟩
  · exact .inl h
  · have hne : some b ≠ v.ownBlock := by
      rcases ho.2 with ⟨e1, _⟩ | ⟨g, cap, cur, e1, e2, e3, _⟩
      · rw [e1]
        intro h
        cases h
      · rw [e1]
        intro h
        have hbg : b = g := by
          have : some b = some g := h
          injection this
        subst hbg
        rcases h4 with h4 | ⟨cs', h4⟩
        · omega
        · have h5 : some (Obj.cells cs' 2 (0, 0)) = some (Obj.cells cur 174 (0, 0)) := h4.symm.trans e3
          simp at h5
    have hk := hg.block b h2 hne
    refine .inr ⟨b, o, h1, h4.imp id fun ⟨cs', h⟩ => ⟨cs', (hk.trans h : _)⟩, Nat.lt_of_lt_of_le h2 hg.size, fun j hj => (cell_of_block hk _).trans (h3 j hj)⟩
theorem Ex.grewF {a : World} (h : Ex a w) (ho : w.ownsRow lo 174 2 v n cs) (hl : a.heap.size ≤ lo) (hg : w.grownBy w' v.ownBlock) : Ex a w' :=
  Below.grown h hg h.size fun k hk => by
    rcases ho.2 with ⟨e1, _⟩ | ⟨g, cap, cur, e1, e2, _⟩
    · rw [e1] at hk
      cases hk
    · rw [e1] at hk
      have : some g = some k := hk
      injection this
      omega
theorem Has.grewF {b : Nat} {T : TypeId} {bs : Array Value} (h : Has w b T bs) (hT : T ≠ 174) (ho : w.ownsRow lo 174 2 v n cs) (hg : w.grownBy w' v.ownBlock) : Has w' b T bs := by
  refine (hg.block b h.lt ?_).trans h
  rcases ho.2 with ⟨e1, _⟩ | ⟨g, cap, cur, e1, e2, e3, _⟩
  · rw [e1]
    intro h
    cases h
  · rw [e1]
    intro h2
    have hbg : b = g := by
      have : some b = some g := h2
      injection this
    subst hbg
    have h5 : some (Obj.cells bs T (0, 0)) = some (Obj.cells cur 174 (0, 0)) := h.symm.trans e3
    simp at h5
    exact hT h5.2
theorem FcsW.ex (h : FcsW w lo v i n F X) (k : Ex w w') : FcsW w' lo v i n F X :=
  let ⟨V, h1, h2⟩ := h
  ⟨V, own_below h1 k, fun j hj => let ⟨A, c, e, hx⟩ := h2 j hj; ⟨A, c, e, hx.ex k⟩⟩
theorem FcsW.snoc {V : Nat → Value} {A : Option Addr} {c : Nat} (h1 : w.ownsRow lo 174 2 v i ((List.range i).flatMap fun j => [.int .i64 (F j), V j])) (h2 : ∀ j, j < i → ∃ A c, V j = .slice A n c ∧ IntsN w lo A (X j)) (hg : w.grownBy w' v.ownBlock)
    (ho : w'.ownsRow lo 174 2 v' (i + 1) (((List.range i).flatMap fun j => [.int .i64 (F j), V j]) ++ [.int .i64 (F i), .slice A n c])) (hx : IntsN w lo A (X i)) : FcsW w' lo v' (i + 1) n F X := by
  refine ⟨fun j => if j = i then .slice A n c else V j, ?_, fun j hj => ?_⟩
  · rw [List.range_succ, List.flatMap_append]
    have e : ((List.range i).flatMap fun j => [Value.int .i64 (F j), if j = i then Value.slice A n c else V j]) = (List.range i).flatMap fun j => [Value.int .i64 (F j), V j] := by
      simp only [List.flatMap]
      congr 1
      refine List.map_congr_left fun j hj => ?_
      have : j < i := List.mem_range.1 hj
      rw [if_neg (by omega)]
    rw [e]
    simpa using ho
  · by_cases hji : j = i
    · subst hji
      exact ⟨A, c, if_pos rfl, hx.grew h1 hg⟩
    · obtain ⟨A', c', e, hx'⟩ := h2 j (by omega)
      exact ⟨A', c', (if_neg hji).trans e, hx'.grew h1 hg⟩
end

/-- The factor and the list of a face. -/
noncomputable def fcF (us Ls : List Int) (k : Nat) : Int := if k = 0 then nth us (nth Ls 0).toNat else sgn k
noncomputable def fcX (t : List (List Int)) (Ls : List Int) (k : Nat) : List Int := if k = 0 then Ls.drop 1 else if k < Ls.length then mgd t Ls (k - 1) else Ls.take (Ls.length - 1)

set_option maxRecDepth 100000 in
set_option maxHeartbeats 8000000 in
theorem facesOf_any (A U : Option Addr) (bl ol : Nat) (t : List (List Int)) (M : Nat) (us Ls : List Int) (c0 c1 e : Nat) (w : World) (hR : RwsW w A t) (hU : IntsW w U us) (hm : ModF t M us) (hX : IntsW w (some ⟨bl, ol, none⟩) Ls) (hr : InR t.length Ls) (hp : 0 < Ls.length) (hn4 : Ls.length ≤ 4) (hle : Ls.length ≤ e) :
    Calls Tryz.prog 159 #[.agg #[.slice A t.length c0], .agg #[.int .i64 (M : Int), .slice U us.length c1], .slice (some ⟨bl, ol, none⟩) Ls.length e] w fun e w' => ∃ v, e = .returned v ∧ Ex w w' ∧ FcsW w' w.heap.size v (Ls.length + 1) (Ls.length - 1) (fcF us Ls) (fcX t Ls) := by
  obtain ⟨iF, hi, hi0, hi1, hi2⟩ := info_parts infoF
  have e0 : Ex w ((w.alloc (.cells #[.slice A t.length c0] 32)).alloc (.cells #[.int .i64 (M : Int), .slice U us.length c1] 52)) := ((Ex.refl w).alloc _).alloc _
  have b0 : Has ((w.alloc (.cells #[.slice A t.length c0] 32)).alloc (.cells #[.int .i64 (M : Int), .slice U us.length c1] 52)) (w.heap.size) 32 #[.slice A t.length c0] := ((Has.newAt (w := w) (e := 32) (cs := #[.slice A t.length c0]) (k := w.heap.size) (by simp)).alloc _)
  have b1 : Has ((w.alloc (.cells #[.slice A t.length c0] 32)).alloc (.cells #[.int .i64 (M : Int), .slice U us.length c1] 52)) (w.heap.size + 1) 52 #[.int .i64 (M : Int), .slice U us.length c1] := (Has.newAt (w := (w.alloc (.cells #[.slice A t.length c0] 32))) (e := 52) (cs := #[.int .i64 (M : Int), .slice U us.length c1]) (k := w.heap.size + 1) (by simp))
  have hbl : bl < w.heap.size := by
    rcases hX with h | ⟨b', o', e', h1, _⟩
    · rw [h] at hp
      cases hp
    · simp only [Option.some.injEq, Addr.mk.injEq, and_true] at e'
      obtain ⟨rfl, rfl⟩ := e'
      exact h1
  have hr0 := hr 0 hp
  obtain ⟨x, hx⟩ : ∃ x : Nat, nth Ls 0 = (x : Int) := ⟨(nth Ls 0).toNat, by omega⟩
  have hxu : x < us.length := by rw [hm.len]; omega
  obtain ⟨bu, ou, rfl, hbu, hcu⟩ := hU.ints.at_ hxu
  have cu := (e0.below.cell (p := ⟨bu, ou + x, none⟩) hbu).trans hcu
  have cl := (e0.below.cell (p := ⟨bl, ol, none⟩) hbl).trans (show w.cell? ⟨bl, ol, none⟩ = some (.int .i64 (x : Int)) by
    rcases hX with h | ⟨b', o', e', h1, h2⟩
    · rw [h] at hp
      cases hp
    · simp only [Option.some.injEq, Addr.mk.injEq, and_true] at e'
      obtain ⟨rfl, rfl⟩ := e'
      have := h2 0 hp
      rwa [Nat.add_zero, hx] at this)
  have HF0 : Hid (fcF us Ls 0 = nth us x) := Lib.hid (by rw [fcF, if_pos rfl, hx]; rfl)
  obtain ⟨u, hu⟩ : ∃ u, nth us x = u := ⟨_, rfl⟩
  rw [hu] at cu HF0
  obtain ⟨ln, hln⟩ : ∃ ln, Ls.length = ln := ⟨_, rfl⟩
  have HLN := Lib.hid hln
  have HMG := Lib.hid (fun (i : Nat) (h : i + 1 < Ls.length) W (he : Ex w W) => mergedAt_any A bl ol t Ls c0 e i W (hR.ex he) hm.g (hX.ex he) hr h (by omega))
  have HX := Lib.hid hX
  have HBG := Lib.hid b0
  have HE0 := Lib.hid e0
  have HC0 := Lib.hid (And.intro (b1.cell 1) (And.intro cl cu))
  obtain ⟨F, hF⟩ : ∃ F, fcF us Ls = F := ⟨_, rfl⟩
  obtain ⟨X, hX'⟩ : ∃ X, fcX t Ls = X := ⟨_, rfl⟩
  have HFE := Lib.hid hF
  have HXE := Lib.hid hX'
  rw [hF] at HF0
  rw [hln] at hp hn4 hle HMG
  rw [hF, hX', hln]
  clear hR hU hm hX hr hr0 hx hcu cu cl hu hln e0 b0 b1 hF hX'
  go_enter Tryz.func159, Tryz.ntmps159
  go_wp2_with fail
  generalize ((w.alloc (.cells #[.slice A t.length c0] 32)).alloc (.cells #[.int .i64 (M : Int), .slice (some ⟨bu, ou, none⟩) us.length c1] 52)) = W0 at *
  refine scope_two rfl rfl
    (fun a w' => ∃ (v u10 u11 u12 u13 u14 u15 u16 u17 u18 u19 u20 u21 u22 u23 u24 u25 u26 u27 u28 u29 u30 u31 u32 u33 u34 u35 u36 u37 u38 u39 u40 u41 u42 u43 u44 u45 u46 : Value), a = { tmps := #[.agg #[.slice A t.length c0], .agg #[.int .i64 (M : Int), .slice (some ⟨bu, ou, none⟩) us.length c1], .slice (some ⟨bl, ol, none⟩) ln e, .pointer (some ⟨w.heap.size, 0, none⟩), .pointer (some ⟨w.heap.size + 1, 0, none⟩), undef, .slice none 0 0, v, .int .i64 (sgn ln), .int .i64 (ln : Int), u10, u11, u12, u13, u14, u15, u16, u17, u18, u19, u20, u21, u22, u23, u24, u25, u26, u27, u28, u29, u30, u31, u32, u33, u34, u35, u36, u37, u38, u39, u40, u41, u42, u43, u44, u45, u46], defers := [] } ∧ Hid (Ex w w') ∧ Hid (FcsW w' w.heap.size v ln (ln - 1) F X))
    (fun a w' => ∃ (i : Nat) (v u10 u11 u12 u13 u14 u15 u16 u17 u18 u19 u20 u21 u22 u23 u24 u25 u26 u27 u28 u29 u30 u31 u32 u33 u34 u35 u36 u37 u38 u39 u40 u41 u42 u43 u44 u45 u46 : Value), a = { tmps := #[.agg #[.slice A t.length c0], .agg #[.int .i64 (M : Int), .slice (some ⟨bu, ou, none⟩) us.length c1], .slice (some ⟨bl, ol, none⟩) ln e, .pointer (some ⟨w.heap.size, 0, none⟩), .pointer (some ⟨w.heap.size + 1, 0, none⟩), undef, .slice none 0 0, v, .int .i64 (sgn i), .int .i64 (i : Int), u10, u11, u12, u13, u14, u15, u16, u17, u18, u19, u20, u21, u22, u23, u24, u25, u26, u27, u28, u29, u30, u31, u32, u33, u34, u35, u36, u37, u38, u39, u40, u41, u42, u43, u44, u45, u46], defers := [] } ∧ 1 ≤ i ∧ i ≤ ln ∧ Hid (Ex w w') ∧ Hid (Has w' w.heap.size 32 #[.slice A t.length c0]) ∧ Hid (FcsW w' w.heap.size v i (ln - 1) F X))
    (fun _ _ => 0) (fun a _ => 10 - (intOf (a.tmps.getD 9 undef)).toNat) ?first ?pass0 ?pass1
  case first =>
    intro h0 h1
    clear h0
    have HH := Lib.hid h1
    clear h1
    obtain ⟨Y, hY⟩ : ∃ Y, (if e = 1 then (some ⟨bl, ol, none⟩ : Option Addr) else some ⟨bl, ol + 1, none⟩) = Y := ⟨_, rfl⟩
    have HY := Lib.hid hY
    have hl1 : (1 : Int) ≤ (ln : Int) := by omega
    go_wp2_with fail
    refine Late.region (C := fun w' => w'.cell? ⟨w.heap.size + 1, 1, none⟩ = some (.slice (some ⟨bu, ou, none⟩) us.length c1) ∧ w'.cell? ⟨bl, ol, none⟩ = some (.int .i64 (x : Int)) ∧ w'.cell? ⟨bu, ou + x, none⟩ = some (.int .i64 u)) (fun _ => true) (by kernel_rfl) HC0.out (fun hC => ?_)
    refine Late.take (i := 0) (oi := _) (v := ?_) rfl (by kernel_rfl) (by kernel_rfl) (by kernel_rfl) (by kernel_rfl) (fun _ _ _ h => h) (Or.inl ⟨by rfl, ?_⟩) hC ?_
    rotate_left
    · (intro w hSw; (try dsimp only at hSw); go_simp; first | done | with_reducible rfl)
    simp only [Act.put]
    refine Late.take (i := 1) (oi := _) (v := ?_) rfl (by kernel_rfl) (by kernel_rfl) (by kernel_rfl) (by kernel_rfl) (fun _ _ _ h => h) (Or.inl ⟨by rfl, ?_⟩) hC ?_
    rotate_left
    · (intro w hSw; (try dsimp only at hSw); go_simp; first | done | with_reducible rfl)
    simp only [Act.put]
    refine Late.take (i := 2) (oi := _) (v := ?_) rfl (by kernel_rfl) (by kernel_rfl) (by kernel_rfl) (by kernel_rfl) (fun _ _ _ h => h) (Or.inl ⟨by rfl, ?_⟩) hC ?_
    rotate_left
    · (intro w hSw; (try dsimp only at hSw); go_simp; first | done | with_reducible rfl)
    simp only [Act.put]
    refine Late.take (i := 3) (oi := _) (v := ?_) rfl (by kernel_rfl) (by kernel_rfl) (by kernel_rfl) (by kernel_rfl) (fun _ _ _ h => h) (Or.inl ⟨by rfl, ?_⟩) hC ?_
    rotate_left
    · (intro w hSw; (try dsimp only at hSw); go_simp; first | done | with_reducible rfl)
    simp only [Act.put]
    refine Late.take (i := 4) (oi := _) (v := ?_) rfl (by kernel_rfl) (by kernel_rfl) (by kernel_rfl) (by kernel_rfl) (fun _ _ _ h => h) (Or.inl ⟨by rfl, ?_⟩) hC ?_
    rotate_left
    · (intro w hSw; (try dsimp only at hSw); go_simp; first | done | with_reducible rfl)
    simp only [Act.put]
    refine Late.take (i := 5) (oi := _) (v := ?_) rfl (by kernel_rfl) (by kernel_rfl) (by kernel_rfl) (by kernel_rfl) (fun _ _ _ h => h) (Or.inl ⟨by rfl, ?_⟩) hC ?_
    rotate_left
    · (intro w hSw; (try dsimp only at hSw); go_simp; first | done | with_reducible rfl)
    simp only [Act.put]
    refine Late.take (i := 6) (oi := _) (v := ?_) rfl (by kernel_rfl) (by kernel_rfl) (by kernel_rfl) (by kernel_rfl) (fun _ _ _ h => h) (Or.inl ⟨by rfl, ?_⟩) hC ?_
    rotate_left
    · (intro w hSw; (try dsimp only at hSw); go_simp; first | done | with_reducible rfl)
    simp only [Act.put]
    refine Late.take (i := 7) (oi := _) (v := ?_) rfl (by kernel_rfl) (by kernel_rfl) (by kernel_rfl) (by kernel_rfl) (fun _ _ _ h => h) (Or.inl ⟨by rfl, ?_⟩) hC ?_
    rotate_left
    · (intro w hSw; (try dsimp only at hSw); go_simp; first | done | with_reducible rfl)
    simp only [Act.put]
    refine Late.take (i := 8) (oi := _) (v := ?_) rfl (by kernel_rfl) (by kernel_rfl) (by kernel_rfl) (by kernel_rfl) (fun _ _ _ h => h) (Or.inl ⟨by rfl, ?_⟩) hC ?_
    rotate_left
    · (intro w hSw; (try dsimp only at hSw); go_simp; first | done | with_reducible rfl)
    simp only [Act.put]
    refine Late.take (i := 9) (oi := _) (v := ?_) rfl (by kernel_rfl) (by kernel_rfl) (by kernel_rfl) (by kernel_rfl) (fun _ _ _ h => h) (Or.inl ⟨by rfl, ?_⟩) hC ?_
    rotate_left
    · (intro w hSw; (try dsimp only at hSw); go_simp; first | done | with_reducible rfl)
    simp only [Act.put]
    refine Late.one (i := 10) (o := _) (by kernel_rfl) rfl (fun K' hK' => ?_)
    go_simp
    obtain ⟨W1, hW1⟩ : ∃ W1, (W0.alloc (.cells #[.int .i64 u, .slice Y (ln - 1) (e - 1)] 174)).drew = W1 := ⟨_, rfl⟩
    have he1 : Ex W0 W1 := by rw [← hW1]; exact (Ex.new _ _).drew
    have hb1 : Has W1 W0.heap.size 174 #[.int .i64 u, .slice Y (ln - 1) (e - 1)] := by rw [← hW1]; exact (Has.new _ _ _).ex (Ex.refl _).drew
    rw [hW1]
    have hh : ∀ (P : Addr) (V : Value), W0.cell? P = some V → W1.cell? P = some V := fun P V h => (he1.below.cell (p := P) (World.block_lt_of_cell? _ _ h)).trans h
    have hC1 := And.intro (hh _ _ HC0.out.1) (And.intro (hh _ _ HC0.out.2.1) (hh _ _ HC0.out.2.2))
    have HB1 := Lib.hid hb1
    have HE1 := Lib.hid he1
    refine hK'.out _ _ (fun _ => hC1) (fun _ => ?_)
    clear hK' K' hh hb1 he1 hW1 hC
    try simp only [Act.put]
    refine Late.one (i := 11) (o := _) (by kernel_rfl) rfl (fun K' hK' => ?_)
    go_simp
    refine hK'.out _ _ (fun _ => hC1) (fun _ => ?_)
    clear hK' K' hC1
    refine Late.done (by kernel_rfl) ?_ _
    go_wp2_with fail
    go_step3
    have hz0 := HE0.out.size
    simp only [Exit.then]
    refine ‹∀ (a : Act) (w : World), Code.wp _ _ _ a w → _› _ _ (HH.out _ _ ⟨1, _, _, _, _, _, _, _, _, _, _, _, _, _, _, _, _, _, _, _, _, _, _, _, _, _, _, _, _, _, _, _, _, _, _, _, _, _, _, rfl, Nat.le_refl _, hp, Lib.hid (HE0.out.trans HE1.out), Lib.hid (HBG.out.ex HE1.out), Lib.hid ⟨fun _ => .slice Y (ln - 1) (e - 1), ⟨rfl, .inr ⟨W0.heap.size, 1, #[.int .i64 u, .slice Y (ln - 1) (e - 1)], rfl, hz0, HB1.out, Nat.le_refl _, by unfold maxLen; omega, rfl, by rw [← HF0.out]; rfl⟩⟩, fun j hj => ?_⟩⟩)
    obtain rfl : j = 0 := by omega
    refine ⟨Y, e - 1, rfl, ?_⟩
    rw [← HXE.out, fcX, if_pos rfl, ← HY.out]
    by_cases he : e = 1
    · exact .inl (List.length_eq_zero_iff.1 (by rw [List.length_drop, HLN.out]; omega))
    · rw [if_neg he]
      exact IntsN.low ((HX.out.ex (HE0.out.trans HE1.out)).drop 1) hbl
  case pass0 =>
    rintro a w1 ⟨v, u10, u11, u12, u13, u14, u15, u16, u17, u18, u19, u20, u21, u22, u23, u24, u25, u26, u27, u28, u29, u30, u31, u32, u33, u34, u35, u36, u37, u38, u39, u40, u41, u42, u43, u44, u45, u46, rfl, HE, HFc⟩ hc
    clear hc
    obtain ⟨V, ho, hl⟩ := HFc.out
    have HV := Lib.hid hl
    have HOW := Lib.hid ho
    obtain ⟨cs, hcs⟩ : ∃ cs, ((List.range ln).flatMap fun j => [Value.int .i64 (F j), V j]) = cs := ⟨_, rfl⟩
    rw [hcs] at ho
    have HO := Lib.hid ho
    have HCS := Lib.hid hcs
    obtain ⟨s, hs⟩ : ∃ s, sgn ln = s := ⟨_, rfl⟩
    rw [hs]
    have HSG := Lib.hid hs
    have hsub : (ln : Int) - 1 = ((ln - 1 : Nat) : Int) := by omega
    have hle2 : ln - 1 ≤ e := by omega
    have hlc : (0 : Int) ≤ ((ln - 1 : Nat) : Int) := by omega
    clear ho hl hcs hs HFc
    go_wp2_with (at_builtin; refine wpList_append_own _ rfl _ _ 175 rfl w.heap.size 174 iF (.agg #[.int .i64 0, .slice none 0 0]) 2 32 Tryz.underlying175 hi hi0 hi1 hi2 rfl (by decide) _ ln cs rfl (own_below HO.out (Ex.new _ _)) ⟨w1.heap.size, 0, none⟩ 1 1 [.int .i64 s, .slice (some ⟨bl, ol, none⟩) (ln - 1) e] rfl rfl (news_two (Has.new _ _ _)) (one_two _ _ _ _) (by unfold maxLen; omega) (by omega) (by have := HE.out.size; simp; omega) ?_; intro v' w3 hown3 hgrow3 _; have HO3 := Lib.hid hown3; have HG3 := Lib.hid hgrow3; clear hown3 hgrow3)
    simp only [jumpTo]
    go_ret
    have hen := Ex.new w1 (.cells #[.int .i64 s, .slice (some ⟨bl, ol, none⟩) (ln - 1) e] 174)
    have hFl : F ln = s := by rw [← HFE.out, fcF, if_neg (by omega), HSG.out]
    have hXl : X ln = Ls.take (ln - 1) := by rw [← HXE.out, fcX, if_neg (by omega), HLN.out, if_neg (by omega)]
    refine ⟨v', rfl, Ex.grewF (HE.out.trans hen) (own_below HO.out hen) (Nat.le_refl _) HG3.out, FcsW.snoc (own_below HOW.out hen) (fun j hj => ?_) HG3.out (by rw [HCS.out, hFl]; exact HO3.out) (by rw [hXl]; exact IntsN.low ((HX.out.ex (HE.out.trans hen)).take _) hbl)⟩
    obtain ⟨A', c', e1, e2⟩ := HV.out j hj
    exact ⟨A', c', e1, e2.ex hen⟩
  case pass1 =>
    rintro a w1 ⟨i, v, u10, u11, u12, u13, u14, u15, u16, u17, u18, u19, u20, u21, u22, u23, u24, u25, u26, u27, u28, u29, u30, u31, u32, u33, u34, u35, u36, u37, u38, u39, u40, u41, u42, u43, u44, u45, u46, rfl, hi1', hi2', HE, HE0', HFc⟩ hc
    clear hc
    by_cases hil : i = ln
    · subst hil
      go_wp2_with fail
      go_step3
      exact .inl ⟨rfl, ⟨_, _, _, _, _, _, _, _, _, _, _, _, _, _, _, _, _, _, _, _, _, _, _, _, _, _, _, _, _, _, _, _, _, _, _, _, _, _, rfl, HE, HFc⟩, by simp [intOf]; omega⟩
    · obtain ⟨k, rfl⟩ : ∃ k, i = k + 1 := ⟨i - 1, by omega⟩
      have hkl : k + 1 < ln := by omega
      have hne : ((k : Int) + 1 == (ln : Int)) = false := by simp; omega
      have cg := HE0'.out.cell 0
      obtain ⟨s, hs⟩ : ∃ s, sgn (k + 1) = s := ⟨_, rfl⟩
      have hs1 : -1 ≤ s ∧ s ≤ 1 := by rw [← hs]; rcases sgn_or (k + 1) with h | h <;> omega
      rw [hs]
      have HSG := Lib.hid hs
      clear hs
      go_wp2_with fail
      refine (HMG.out k hkl w1 HE.out).mono ?_
      rintro e2 w2 ⟨g, e', rfl, he2, ho2, ht2⟩
      have HE2 := Lib.hid he2
      have HL2 := Lib.hid ho2
      have HT2 := Lib.hid ht2
      obtain ⟨V, ho, hl⟩ := HFc.out.ex he2
      have HV := Lib.hid hl
      have HOW := Lib.hid ho
      obtain ⟨cs, hcs⟩ : ∃ cs, ((List.range (k + 1)).flatMap fun j => [Value.int .i64 (F j), V j]) = cs := ⟨_, rfl⟩
      rw [hcs] at ho
      have HO := Lib.hid ho
      have HCS := Lib.hid hcs
      clear ho hl hcs he2 ho2 ht2 cg HFc
      go_wp2_with (at_builtin; refine wpList_append_own _ rfl _ _ 175 rfl w.heap.size 174 iF (.agg #[.int .i64 0, .slice none 0 0]) 2 32 Tryz.underlying175 hi hi0 hi1 hi2 rfl (by decide) _ (k + 1) cs rfl (own_below HO.out (Ex.new _ _)) ⟨w2.heap.size, 0, none⟩ 1 1 [.int .i64 s, .slice (some ⟨g, 0, none⟩) (ln - 1) e'] rfl rfl (news_two (Has.new _ _ _)) (one_two _ _ _ _) (by unfold maxLen; omega) (by omega) (by have := HE.out.size; have := HE2.out.size; simp; omega) ?_; intro v' w3 hown3 hgrow3 _; have HO3 := Lib.hid hown3; have HG3 := Lib.hid hgrow3; clear hown3 hgrow3)
      go_step3
      have hen := Ex.new w2 (.cells #[.int .i64 s, .slice (some ⟨g, 0, none⟩) (ln - 1) e'] 174)
      have hFl : F (k + 1) = s := by rw [← HFE.out, fcF, if_neg (by omega), HSG.out]
      have hXl : X (k + 1) = mgd t Ls k := by rw [← HXE.out, fcX, if_neg (by omega), if_pos (by rw [HLN.out]; exact hkl), Nat.add_sub_cancel]
      have he3 : Ex w w3 := Ex.grewF ((HE.out.trans HE2.out).trans hen) (own_below HO.out hen) (Nat.le_refl _) HG3.out
      have he03 : Has w3 w.heap.size 32 #[.slice A t.length c0] := Has.grewF ((HE0'.out.ex HE2.out).ex hen) (by decide) (own_below HO.out hen) HG3.out
      have hfc : FcsW w3 w.heap.size v' (k + 1 + 1) (ln - 1) F X := FcsW.snoc (own_below HOW.out hen) (fun j hj => by
        obtain ⟨A', c', e1, e2⟩ := HV.out j hj
        exact ⟨A', c', e1, e2.ex hen⟩) HG3.out (by rw [HCS.out, hFl]; exact HO3.out) (by rw [hXl]; exact IntsN.typed (HL2.out.ints.ex hen) (HT2.out.ex hen))
      have hsg := HSG.out
      subst hsg
      exact .inr ⟨rfl, ⟨k + 1 + 1, _, _, _, _, _, _, _, _, _, _, _, _, _, _, _, _, _, _, _, _, _, _, _, _, _, _, _, _, _, _, _, _, _, _, _, _, _, _, rfl, by omega, by omega, Lib.hid he3, Lib.hid he03, Lib.hid hfc⟩, by simp [intOf]; omega⟩

end Go.Proofs.YtcdijeeabgmgmaaGreatDoor
