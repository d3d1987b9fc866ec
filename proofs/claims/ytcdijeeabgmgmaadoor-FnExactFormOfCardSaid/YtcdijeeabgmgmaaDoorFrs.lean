/- The program's own variable that the rows list: an error, as its text lays it; what is asked behind the call where one variable is listed. -/
import Derived.ProofKit
import Derived.LaidMore
import Derived.OpenShut
import Derived.Stop.Joined
import Derived.Stop.LaidErr
import Derived.Test.YtcdijeeabgmgmaaDoorRows
import Derived.Test.YtcdijeeabgmgmaaDoorVal
import Derived.Test.YtcdijeeabgmgmaaDoorFra
namespace Go.Proofs.YtcdijeeabgmgmaaDoor
open Go.ChangeShapes Go.WideShapes Go.ChangeAt Go.RowKit

abbrev errName : String := "loop.example/g01363/impl.errNoList"
abbrev laidErr : List (String × DataW Unit) := [(errName, Rows.laid_loop_example_g01363_impl_errNoList)]
theorem gErr : Tryd.prog.globalNamed errName = some 0 := by kernel_rfl
theorem tErr : (Tryd.prog.globals[0]?).map (·.type) = some 214 := by kernel_rfl
theorem cErr : Tryd.prog.cellsOf 267 = 1 := by kernel_rfl
theorem cStr : Tryd.prog.cellsOf 9 = 1 := by kernel_rfl
theorem starErr : "*" ++ "errors.errorString" = "*errors.errorString" := by decide
theorem rowErr (u : TypeId) (h : Tryd.prog.typeName? 3 u = some "*errors.errorString") : u = 250 :=
  typeName_ptr_named (nm := "errors.errorString") (by rw [starErr]; kernel_rfl) (by kernel_rfl) (by decide) u (by rw [starErr]; exact h)

set_option maxRecDepth 100000 in
/-- What the list gives. -/
theorem errVar_of {W : World} (h : laidMetH Tryd.prog laidErr W) : ∃ a : Addr, W.var? Tryd.prog errName = some #[.iface 250 (.pointer (some a))] := by
  rw [MakeChecks.laidMetH_plain _ _ _ (by kernel_rfl)] at h
  unfold laidErr Rows.laid_loop_example_g01363_impl_errNoList at h
  obtain ⟨a, s, hv, _⟩ := laid_sentinel h gErr tErr Tryd.underlying214 rowErr Tryd.underlying250 Tryd.underlying267 rfl rfl Tryd.underlying9 cErr cStr
  exact ⟨a, hv⟩
theorem errL_of {W : World} (h : laidMetH Tryd.prog laidErr W) : ErrL W := by
  obtain ⟨a, hv⟩ := errVar_of h
  exact ⟨a, by rw [World.var?_cell gErr hv]; rfl⟩
theorem var_keep {W W' : World} {cs : Array Value} (hb : Below W.heap.size W W') (h : W.var? Tryd.prog errName = some cs) : W'.var? Tryd.prog errName = some cs := by
  have hlt : 0 < W.heap.size := by
    rcases Nat.lt_or_ge 0 W.heap.size with h' | h'
    · exact h'
    · unfold World.var? at h
      rw [gErr] at h
      simp [Array.getElem?_eq_none h'] at h
  unfold World.var? at h ⊢
  rw [gErr] at h ⊢
  simp only [Option.bind_some] at h ⊢
  rw [hb.block _ hlt]
  exact h

set_option maxRecDepth 100000 in
/-- The door's own heap meets the list. -/
theorem laidErr_met (os : Os) (args : Array Value) : laidMetH Tryd.prog laidErr ((World.doorLaid Tryd.prog 400 os).forCall (fun _ _ => 0) ⟨#[], args, []⟩).memory :=
  laidMetH_of_parts3 (fuel := 8) (laidMet_of_run' 8 (by kernel_rfl) (by kernel_rfl)) (by kernel_rfl) (by kernel_rfl)

set_option maxRecDepth 100000 in
/-- What is asked behind the call of a law that answered true, where nothing that was there has turned and variables are listed. -/
theorem law_postV {H : Type} {enc : TypeId × Value → H} {f : Func} {s : ChangeSpec} {W W' : World} {args : Array Value} {ds gs : List (DataW H)} {places pa pv : List MemPlace}
    (hW : DataW.Whole enc Tryd.prog f.params.toList s.vars false W args.toList ds gs places) (hb : Below W.heap.size W W') (hr : f.resultTypes = #[4])
    (hfn : s.fn H (ds ++ gs) = { results := [.lit (.bool true)], args := ds, vars := gs })
    (hargs : DataW.TrodAll enc Tryd.prog W' 0 (fun b => decide (b < W.heap.size)) true f.params.toList args.toList ds pa)
    (hvars : DataW.TrodVars enc Tryd.prog W' (fun b => decide (b < W.heap.size)) s.vars gs pv) (hps : places = pa ++ pv) :
    s.post enc Tryd.prog f false true false false W args (.bool true) W' := by
  refine ⟨ds, gs, places, [], pa, pv, hW, ?_, ?_, ?_, World.keptBut_mono (fun p hp => ⟨hp, ?_⟩) (hb.frame (· ∈ places)), fun h => by cases h⟩
  · rw [hfn, hr]
    exact trodAll_mk1 (shut_bool Tryd.underlying4 true)
  · rw [hfn]
    exact hargs
  · rw [hfn]
    exact hvars
  · subst hps
    rcases List.mem_append.1 hp with h | h
    · exact .inr (.inl h)
    · exact .inr (.inr h)

end Go.Proofs.YtcdijeeabgmgmaaDoor
