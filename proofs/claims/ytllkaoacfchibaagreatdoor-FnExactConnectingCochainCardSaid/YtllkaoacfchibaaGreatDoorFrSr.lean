/- The package variables that the rows list (loop.example/g01363/impl.errNoList, loop.example/g01363/impl.errNoDivisor), as the program's text lays them; what they give the walks; what is asked behind the call. -/
import Derived.ProofKit
import Derived.LaidMore
import Derived.OpenShut
import Derived.Stop.Joined
import Derived.Stop.LaidErr
import Derived.Test.YtllkaoacfchibaaGreatDoorRows
import Derived.Test.YtllkaoacfchibaaGreatDoorFra
import Derived.Test.YtllkaoacfchibaaGreatDoorVal
import Derived.Test.YtllkaoacfchibaaGreatDoorWc
namespace Go.Proofs.YtllkaoacfchibaaGreatDoor
open Go.ChangeShapes Go.WideShapes Go.ChangeAt Go.RowKit

abbrev laidSr : List (String × DataW Unit) := [("loop.example/g01363/impl.errNoList", Rows.laid_loop_example_g01363_impl_errNoList), ("loop.example/g01363/impl.errNoDivisor", Rows.laid_loop_example_g01363_impl_errNoDivisor)]
theorem cErr : Tryz.prog.cellsOf 247 = 1 := by kernel_rfl
theorem cStr : Tryz.prog.cellsOf 9 = 1 := by kernel_rfl
theorem starErr : "*" ++ "errors.errorString" = "*errors.errorString" := by decide
theorem rowErr (u : TypeId) (h : Tryz.prog.typeName? 3 u = some "*errors.errorString") : u = 229 :=
  typeName_ptr_named (nm := "errors.errorString") (by rw [starErr]; kernel_rfl) (by kernel_rfl) (by decide) u (by rw [starErr]; exact h)

abbrev errName : String := "loop.example/g01363/impl.errNoList"
theorem g_err : Tryz.prog.globalNamed errName = some 1 := by kernel_rfl
theorem t_err : (Tryz.prog.globals[1]?).map (·.type) = some 201 := by kernel_rfl
set_option maxRecDepth 100000 in
theorem errVar_of {W : World} (h : laidMetH Tryz.prog laidSr W) : ∃ a : Addr, W.var? Tryz.prog errName = some #[.iface 229 (.pointer (some a))] := by
  rw [MakeChecks.laidMetH_plain _ _ _ (by kernel_rfl)] at h
  unfold laidSr at h
  unfold Rows.laid_loop_example_g01363_impl_errNoList at h
  obtain ⟨a, s, hv, _⟩ := laid_sentinel h g_err t_err Tryz.underlying201 rowErr Tryz.underlying229 Tryz.underlying247 rfl rfl Tryz.underlying9 cErr cStr
  exact ⟨a, hv⟩
theorem errL_of {W : World} (h : laidMetH Tryz.prog laidSr W) : ErrL W := by
  obtain ⟨a, hv⟩ := errVar_of h
  exact ⟨a, by rw [World.var?_cell g_err hv]; rfl⟩
theorem err_keep {W W' : World} {cs : Array Value} (hb : Below W.heap.size W W') (h : W.var? Tryz.prog errName = some cs) : W'.var? Tryz.prog errName = some cs := by
  have hlt : 1 < W.heap.size := by
    rcases Nat.lt_or_ge 1 W.heap.size with h' | h'
    · exact h'
    · unfold World.var? at h
      rw [g_err] at h
      simp [Array.getElem?_eq_none h'] at h
  unfold World.var? at h ⊢
  rw [g_err] at h ⊢
  simp only [Option.bind_some] at h ⊢
  rw [hb.block _ hlt]
  exact h

abbrev divName : String := "loop.example/g01363/impl.errNoDivisor"
theorem g_div : Tryz.prog.globalNamed divName = some 0 := by kernel_rfl
theorem t_div : (Tryz.prog.globals[0]?).map (·.type) = some 201 := by kernel_rfl
set_option maxRecDepth 100000 in
theorem divVar_of {W : World} (h : laidMetH Tryz.prog laidSr W) : ∃ a : Addr, W.var? Tryz.prog divName = some #[.iface 229 (.pointer (some a))] := by
  rw [MakeChecks.laidMetH_plain _ _ _ (by kernel_rfl)] at h
  unfold laidSr at h
  replace h := laidMet.tail h
  unfold Rows.laid_loop_example_g01363_impl_errNoDivisor at h
  obtain ⟨a, s, hv, _⟩ := laid_sentinel h g_div t_div Tryz.underlying201 rowErr Tryz.underlying229 Tryz.underlying247 rfl rfl Tryz.underlying9 cErr cStr
  exact ⟨a, hv⟩
theorem divL_of {W : World} (h : laidMetH Tryz.prog laidSr W) : ErrD W := by
  obtain ⟨a, hv⟩ := divVar_of h
  exact ⟨a, by rw [World.var?_cell g_div hv]; rfl⟩
theorem div_keep {W W' : World} {cs : Array Value} (hb : Below W.heap.size W W') (h : W.var? Tryz.prog divName = some cs) : W'.var? Tryz.prog divName = some cs := by
  have hlt : 0 < W.heap.size := by
    rcases Nat.lt_or_ge 0 W.heap.size with h' | h'
    · exact h'
    · unfold World.var? at h
      rw [g_div] at h
      simp [Array.getElem?_eq_none h'] at h
  unfold World.var? at h ⊢
  rw [g_div] at h ⊢
  simp only [Option.bind_some] at h ⊢
  rw [hb.block _ hlt]
  exact h

set_option maxRecDepth 100000 in
theorem laidSr_met (os : Os) (args : Array Value) : laidMetH Tryz.prog laidSr ((World.doorLaid Tryz.prog 400 os).forCall (fun _ _ => 0) ⟨#[], args, []⟩).memory :=
  laidMetH_of_parts3 (fuel := 8) (laidMet_of_run' 8 (by kernel_rfl) (by kernel_rfl)) (by kernel_rfl) (by kernel_rfl)

set_option maxRecDepth 100000 in
/-- What is asked behind the call of a law that answered true, where nothing that was there has turned and variables are listed. -/
theorem law_postV {H : Type} {enc : TypeId × Value → H} {f : Func} {s : ChangeSpec} {W W' : World} {args : Array Value} {ds gs : List (DataW H)} {places pa pv : List MemPlace}
    (hW : DataW.Whole enc Tryz.prog f.params.toList s.vars false W args.toList ds gs places) (hb : Below W.heap.size W W') (hr : f.resultTypes = #[4])
    (hfn : s.fn H (ds ++ gs) = { results := [.lit (.bool true)], args := ds, vars := gs })
    (hargs : DataW.TrodAll enc Tryz.prog W' 0 (fun b => decide (b < W.heap.size)) true f.params.toList args.toList ds pa)
    (hvars : DataW.TrodVars enc Tryz.prog W' (fun b => decide (b < W.heap.size)) s.vars gs pv) (hps : places = pa ++ pv) :
    s.post enc Tryz.prog f false true false false W args (.bool true) W' := by
  refine ⟨ds, gs, places, [], pa, pv, hW, ?_, ?_, ?_, World.keptBut_mono (fun p hp => ⟨hp, ?_⟩) (hb.frame (· ∈ places)), fun h => by cases h⟩
  · rw [hfn, hr]
    exact trodAll_mk1 (shut_bool Tryz.underlying4 true)
  · rw [hfn]
    exact hargs
  · rw [hfn]
    exact hvars
  · subst hps
    rcases List.mem_append.1 hp with h | h
    · exact .inr (.inl h)
    · exact .inr (.inr h)


end Go.Proofs.YtllkaoacfchibaaGreatDoor
