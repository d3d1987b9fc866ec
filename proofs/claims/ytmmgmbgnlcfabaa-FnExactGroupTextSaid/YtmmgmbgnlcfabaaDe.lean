/- A module's text, by the specification. -/
import Derived.Deep.RegionWith
import Derived.Test.YtmmgmbgnlcfabaaGr
import Derived.Test.YtmmgmbgnlcfabaaMf
import Derived.Test.YtmmgmbgnlcfabaaTt
namespace Go.Proofs.Ytmmgmbgnlcfabaa
open Go.RowKit

theorem dec_has (W : World) (g : Nat) (v : Int) (b : UInt8) (hv : v = (b.toNat : Int)) (h : Has W g 5 #[.int .u8 v]) : (convert 65 9 (.slice (some ⟨g, 0, none⟩) 1 1)).run Try.prog W = .ok (.string ⟨#[b]⟩) W := by
  refine run_convert_bytes_back W 65 9 5 ⟨g, 0, none⟩ 1 [b] Try.underlying65 Try.underlying5 Try.underlying9 fun j hj => ?_
  obtain rfl : j = 0 := by simpa using hj
  rw [Addr.add_lit]
  have := h.cell 0
  subst hv
  simpa using this
theorem dec_new (W : World) (v : Int) (b : UInt8) (hv : v = (b.toNat : Int)) : (convert 65 9 (.slice (some ⟨W.heap.size, 0, none⟩) 1 1)).run Try.prog (W.alloc (.cells #[.int .u8 v] 5)) = .ok (.string ⟨#[b]⟩) (W.alloc (.cells #[.int .u8 v] 5)) :=
  dec_has _ _ v b hv (Has.new _ _ _)
theorem ex_al (w : World) (o : Obj) : Ex w (w.alloc o) := (Ex.refl w).alloc o

set_option maxRecDepth 100000 in
set_option maxHeartbeats 2000000 in
theorem dec_small (n : Nat) (w : World) (hn : n < 10) : Calls Try.prog 58 #[.int .i64 (n : Int)] w fun e w' => e = .returned (.string (decB n)) ∧ Ex w w' := by
  have h : n = 0 ∨ n = 1 ∨ n = 2 ∨ n = 3 ∨ n = 4 ∨ n = 5 ∨ n = 6 ∨ n = 7 ∨ n = 8 ∨ n = 9 := by omega
  rcases h with rfl | rfl | rfl | rfl | rfl | rfl | rfl | rfl | rfl | rfl
  · have kc := fun W : World => dec_new W 48 48 (by decide)
    go_enter Try.func58, Try.ntmps58
    go_wp2_with fail
    go_ret
    exact ⟨rfl, ex_al w _⟩
  · have kc := fun W : World => dec_new W 49 49 (by decide)
    go_enter Try.func58, Try.ntmps58
    go_wp2_with fail
    go_ret
    exact ⟨rfl, ex_al w _⟩
  · have kc := fun W : World => dec_new W 50 50 (by decide)
    go_enter Try.func58, Try.ntmps58
    go_wp2_with fail
    go_ret
    exact ⟨rfl, ex_al w _⟩
  · have kc := fun W : World => dec_new W 51 51 (by decide)
    go_enter Try.func58, Try.ntmps58
    go_wp2_with fail
    go_ret
    exact ⟨rfl, ex_al w _⟩
  · have kc := fun W : World => dec_new W 52 52 (by decide)
    go_enter Try.func58, Try.ntmps58
    go_wp2_with fail
    go_ret
    exact ⟨rfl, ex_al w _⟩
  · have kc := fun W : World => dec_new W 53 53 (by decide)
    go_enter Try.func58, Try.ntmps58
    go_wp2_with fail
    go_ret
    exact ⟨rfl, ex_al w _⟩
  · have kc := fun W : World => dec_new W 54 54 (by decide)
    go_enter Try.func58, Try.ntmps58
    go_wp2_with fail
    go_ret
    exact ⟨rfl, ex_al w _⟩
  · have kc := fun W : World => dec_new W 55 55 (by decide)
    go_enter Try.func58, Try.ntmps58
    go_wp2_with fail
    go_ret
    exact ⟨rfl, ex_al w _⟩
  · have kc := fun W : World => dec_new W 56 56 (by decide)
    go_enter Try.func58, Try.ntmps58
    go_wp2_with fail
    go_ret
    exact ⟨rfl, ex_al w _⟩
  · have kc := fun W : World => dec_new W 57 57 (by decide)
    go_enter Try.func58, Try.ntmps58
    go_wp2_with fail
    go_ret
    exact ⟨rfl, ex_al w _⟩

set_option maxRecDepth 100000 in
set_option maxHeartbeats 2000000 in
theorem dec_any (n : Nat) (w : World) (hn : n ≤ 12) : Calls Try.prog 58 #[.int .i64 (n : Int)] w fun e w' => e = .returned (.string (decB n)) ∧ Ex w w' := by
  by_cases h9 : n < 10
  · exact dec_small n w h9
  have h : n = 10 ∨ n = 11 ∨ n = 12 := by omega
  rcases h with rfl | rfl | rfl
  · have kc := fun W : World => dec_new W (IntKind.u8.wrap (IntKind.i64.wrap 48)) 48 (by decide)
    have kh := fun (W : World) (g : Nat) (hb : Has W g 5 #[.int .u8 (IntKind.u8.wrap (IntKind.i64.wrap 48))]) => dec_has W g (IntKind.u8.wrap (IntKind.i64.wrap 48)) 48 (by decide) hb
    have kd := fun W : World => kh (W.alloc (.cells #[.int .u8 (IntKind.u8.wrap (IntKind.i64.wrap 48))] 5)).drew W.heap.size ((Has.new W 5 #[.int .u8 (IntKind.u8.wrap (IntKind.i64.wrap 48))]).ex (Ex.refl _).drew)
    go_enter Try.func58, Try.ntmps58
    go_wp2_with fail
    go_region_with (go_at_call 58; refine (dec_small 1 _ (by omega)).mono ?_; rintro e w' ⟨rfl, he⟩; (first | (have hcv := kh w' w.heap.size (Has.ex (Has.new w.drew _ _) he)) | skip))
    all_goals
      go_wp2_with fail
      go_ret
      exact ⟨rfl, by repeat (first | exact Ex.refl _ | assumption | exact (Ex.refl _).drew | refine Ex.alloc ?_ _ | refine Ex.trans ?_ (by assumption) | refine Ex.drew ?_)⟩
  · have kc := fun W : World => dec_new W (IntKind.u8.wrap (IntKind.i64.wrap 49)) 49 (by decide)
    have kh := fun (W : World) (g : Nat) (hb : Has W g 5 #[.int .u8 (IntKind.u8.wrap (IntKind.i64.wrap 49))]) => dec_has W g (IntKind.u8.wrap (IntKind.i64.wrap 49)) 49 (by decide) hb
    have kd := fun W : World => kh (W.alloc (.cells #[.int .u8 (IntKind.u8.wrap (IntKind.i64.wrap 49))] 5)).drew W.heap.size ((Has.new W 5 #[.int .u8 (IntKind.u8.wrap (IntKind.i64.wrap 49))]).ex (Ex.refl _).drew)
    go_enter Try.func58, Try.ntmps58
    go_wp2_with fail
    go_region_with (go_at_call 58; refine (dec_small 1 _ (by omega)).mono ?_; rintro e w' ⟨rfl, he⟩; (first | (have hcv := kh w' w.heap.size (Has.ex (Has.new w.drew _ _) he)) | skip))
    all_goals
      go_wp2_with fail
      go_ret
      exact ⟨rfl, by repeat (first | exact Ex.refl _ | assumption | exact (Ex.refl _).drew | refine Ex.alloc ?_ _ | refine Ex.trans ?_ (by assumption) | refine Ex.drew ?_)⟩
  · have kc := fun W : World => dec_new W (IntKind.u8.wrap (IntKind.i64.wrap 50)) 50 (by decide)
    have kh := fun (W : World) (g : Nat) (hb : Has W g 5 #[.int .u8 (IntKind.u8.wrap (IntKind.i64.wrap 50))]) => dec_has W g (IntKind.u8.wrap (IntKind.i64.wrap 50)) 50 (by decide) hb
    have kd := fun W : World => kh (W.alloc (.cells #[.int .u8 (IntKind.u8.wrap (IntKind.i64.wrap 50))] 5)).drew W.heap.size ((Has.new W 5 #[.int .u8 (IntKind.u8.wrap (IntKind.i64.wrap 50))]).ex (Ex.refl _).drew)
    go_enter Try.func58, Try.ntmps58
    go_wp2_with fail
    go_region_with (go_at_call 58; refine (dec_small 1 _ (by omega)).mono ?_; rintro e w' ⟨rfl, he⟩; (first | (have hcv := kh w' w.heap.size (Has.ex (Has.new w.drew _ _) he)) | skip))
    all_goals
      go_wp2_with fail
      go_ret
      exact ⟨rfl, by repeat (first | exact Ex.refl _ | assumption | exact (Ex.refl _).drew | refine Ex.alloc ?_ _ | refine Ex.trans ?_ (by assumption) | refine Ex.drew ?_)⟩

end Go.Proofs.Ytmmgmbgnlcfabaa
