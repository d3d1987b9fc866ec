/- The closed facts of a row, in parts: a great program's are too much for one proof of the kernel's. -/
import Derived.ProofKit
import Derived.Test.YtcdijeeabgmgmaaGreatDoorRows
namespace Go.Proofs.YtcdijeeabgmgmaaGreatDoor
open Go.ChangeShapes Go.WideShapes Go.ChangeAt Go.RowKit

theorem both {a b : Bool} (h : a = true) (k : b = true) : (a && b) = true := by rw [h, k]; rfl

theorem joined_parts {P : Program} {f : FuncId} {fn : Func} {s : ChangeSpec} {c : OpenClaim} (h1 : c.wf (OpenSpec.ofChange s) = true) (h2 : laidOutB P = true) (h3 : mapsRowed P = true) (h4 : fn.params.all (P.readableRec ·) = true) (h5 : namedTie P c.named s.vars = true)
    (h6 : (c.stops == []) = true) (h7 : (P.stops == []) = true) (h8 : (c.knobs == []) = true) (h9 : (P.stopKnobs == []) = true) (h10 : (c.inPlace == P.inPlace f) = true) (h11 : (c.unfollowed == P.unfollowed f) = true) (h12 : (c.recurses == P.recurses f) = true) (h13 : (c.named == P.varsNamed f) = true)
    (h14 : (c.maps == (fn.params.toList ++ s.plain.varTypes P).any (P.mapsRec ·)) = true) (h15 : (c.ifaces == (fn.params.toList ++ s.plain.varTypes P).any (P.ifacesRec ·)) = true) (h16 : (c.mapsOut == P.mapsAmong fn.resultTypes.toList) = true)
    (h17 : (c.loops == (fn.params.toList ++ s.plain.varTypes P).any (P.loopsFrom ·)) = true) (h18 : (c.wideKeys == (fn.params.toList ++ s.plain.varTypes P ++ fn.resultTypes.toList).any (P.wideKeysFrom ·)) = true)
    (h19 : s.vars.all (P.varReadable ·) = true) (h20 : fn.resultTypes.all (fun t => P.readableRec t && decide (t < P.types.size)) = true) (h21 : (c.ifacesOut == fn.resultTypes.toList.any (P.ifacesRec ·)) = true) (h22 : (c.loopsOut == fn.resultTypes.toList.any (P.loopsFrom ·)) = true)
    (h23 : (c.plainKeys == P.plainKeys) = true) (h24 : c.shortTexts.isNone = true) (h25 : P.stopsHeard = true) (h26 : P.mayEnter = true) (h27 : (c.lifted == P.liftsFinal) = true) (h28 : (P.make == some c.make) = true)
    (h29 : (c.kinds == (if c.domain.isEmpty then [] else fn.params.toList.map fun t => match P.underlying t with | some (.int k) => some k | _ => none)) = true) (h30 : (c.pinned == c.pinnedBy) = true)
    (h31 : (c.veiled == (fn.params.toList ++ s.plain.varTypes P ++ fn.resultTypes.toList).any (P.veiledRec ·)) = true) (h32 : c.veiledFits P fn.params.toList (fn.params.toList ++ s.plain.varTypes P ++ fn.resultTypes.toList) = true) :
    joinedFacts P f fn s c = true := by
  unfold joinedFacts
  exact both (both (both (both (both (both (both (both (both (both (both (both (both (both (both (both (both (both (both (both (both (both (both (both (both (both (both (both (both (both (both h1 h2) h3) h4) h5) h6) h7) h8) h9) h10) h11) h12) h13) h14) h15) h16) h17) h18) h19) h20) h21) h22) h23) h24) h25) h26) h27) h28) h29) h30) h31) h32

theorem all_chunk {α : Type} {p : α → Bool} {L : List α} {n : Nat} (h1 : (L.take n).all p = true) (h2 : (L.drop n).all p = true) : L.all p = true := by
  rw [← List.take_append_drop n L, List.all_append, h1, h2]
  rfl

section
variable {P : Program} (h : P.funcs.toList.all (fun fn => (Stop.rowOf fn).isNone) = true)
include h
theorem row_none {fn : Func} (hf : fn ∈ P.funcs.toList) : Stop.rowOf fn = none := Option.isNone_iff_eq_none.1 (List.all_eq_true.1 h fn hf)
theorem stops_nil : (P.stops == []) = true := by
  have e : P.funcs.toList.filterMap (fun fn => (Stop.rowOf fn).map (·.name)) = [] := List.filterMap_eq_nil_iff.2 fun fn hf => by rw [row_none h hf]; rfl
  unfold Program.stops
  rw [e]
  rfl
theorem knobs_nil : (P.stopKnobs == []) = true := by
  have e : P.funcs.toList.filterMap Stop.rowOf = [] := List.filterMap_eq_nil_iff.2 fun fn hf => row_none h hf
  unfold Program.stopKnobs
  rw [e]
  rfl
theorem heard_all : P.stopsHeard = true := by
  unfold Program.stopsHeard
  rw [← Array.all_toList, List.all_eq_true]
  intro fn hf
  rw [row_none h hf]
  rfl
end

theorem jp_none0 : (Tryz.prog.funcs.toList.take 20).all (fun fn => (Stop.rowOf fn).isNone) = true := by kernel_rfl
theorem jp_none1 : ((Tryz.prog.funcs.toList.drop 20).take 20).all (fun fn => (Stop.rowOf fn).isNone) = true := by kernel_rfl
theorem jp_none2 : (((Tryz.prog.funcs.toList.drop 20).drop 20).take 20).all (fun fn => (Stop.rowOf fn).isNone) = true := by kernel_rfl
theorem jp_none3 : ((((Tryz.prog.funcs.toList.drop 20).drop 20).drop 20).take 20).all (fun fn => (Stop.rowOf fn).isNone) = true := by kernel_rfl
theorem jp_none4 : (((((Tryz.prog.funcs.toList.drop 20).drop 20).drop 20).drop 20).take 20).all (fun fn => (Stop.rowOf fn).isNone) = true := by kernel_rfl
theorem jp_none5 : ((((((Tryz.prog.funcs.toList.drop 20).drop 20).drop 20).drop 20).drop 20).take 20).all (fun fn => (Stop.rowOf fn).isNone) = true := by kernel_rfl
theorem jp_none6 : (((((((Tryz.prog.funcs.toList.drop 20).drop 20).drop 20).drop 20).drop 20).drop 20).take 20).all (fun fn => (Stop.rowOf fn).isNone) = true := by kernel_rfl
theorem jp_none7 : ((((((((Tryz.prog.funcs.toList.drop 20).drop 20).drop 20).drop 20).drop 20).drop 20).drop 20).take 20).all (fun fn => (Stop.rowOf fn).isNone) = true := by kernel_rfl
theorem jp_none8 : (((((((((Tryz.prog.funcs.toList.drop 20).drop 20).drop 20).drop 20).drop 20).drop 20).drop 20).drop 20).take 20).all (fun fn => (Stop.rowOf fn).isNone) = true := by kernel_rfl
theorem jp_none9 : ((((((((((Tryz.prog.funcs.toList.drop 20).drop 20).drop 20).drop 20).drop 20).drop 20).drop 20).drop 20).drop 20).take 20).all (fun fn => (Stop.rowOf fn).isNone) = true := by kernel_rfl
theorem jp_rest : ((((((((((Tryz.prog.funcs.toList.drop 20).drop 20).drop 20).drop 20).drop 20).drop 20).drop 20).drop 20).drop 20).drop 20).all (fun fn => (Stop.rowOf fn).isNone) = true := by kernel_rfl
theorem jp_none : Tryz.prog.funcs.toList.all (fun fn => (Stop.rowOf fn).isNone) = true := (all_chunk jp_none0 (all_chunk jp_none1 (all_chunk jp_none2 (all_chunk jp_none3 (all_chunk jp_none4 (all_chunk jp_none5 (all_chunk jp_none6 (all_chunk jp_none7 (all_chunk jp_none8 (all_chunk jp_none9 jp_rest))))))))))
theorem jp_stops : (Program.stops Tryz.prog == []) = true := stops_nil jp_none
theorem jp_knobs : (Program.stopKnobs Tryz.prog == []) = true := knobs_nil jp_none
theorem jp_heard : Program.stopsHeard Tryz.prog = true := heard_all jp_none
theorem jp_laid : laidOutB Tryz.prog = true := by kernel_rfl
theorem jp_maps : mapsRowed Tryz.prog = true := by kernel_rfl

/-- A sign by its number. -/
abbrev sg (n : Nat) : Char := Char.ofNat n
set_option maxRecDepth 100000 in
/-- The program's head, sign by sign. -/
def jp_L : List Char := [sg 104, sg 97, sg 114, sg 110, sg 101, sg 115, sg 115, sg 32, sg 55, sg 49, sg 102, sg 101, sg 57, sg 99, sg 50, sg 55, sg 52, sg 48, sg 100, sg 100, sg 55, sg 51, sg 52, sg 100, sg 50, sg 57, sg 50, sg 99, sg 98, sg 56, sg 57, sg 50, sg 54, sg 51, sg 99, sg 100, sg 53, sg 97, sg 51, sg 100, sg 99, sg 51, sg 102, sg 100, sg 51, sg 56, sg 102, sg 57, sg 50, sg 51, sg 53, sg 49, sg 102, sg 52, sg 49, sg 48, sg 97, sg 57, sg 99, sg 97, sg 56, sg 55, sg 54, sg 54, sg 50, sg 99, sg 97, sg 52, sg 49, sg 102, sg 98, sg 50, sg 32, sg 99, sg 117, sg 116, sg 32, sg 97, sg 116, sg 32, sg 108, sg 111, sg 111, sg 112, sg 46, sg 101, sg 120, sg 97, sg 109, sg 112, sg 108, sg 101, sg 47, sg 103, sg 48, sg 49, sg 51, sg 54, sg 51, sg 47, sg 108, sg 97, sg 119, sg 115, sg 46, sg 70, sg 110, sg 69, sg 120, sg 97, sg 99, sg 116, sg 82, sg 101, sg 103, sg 117, sg 108, sg 97, sg 114, sg 69, sg 108, sg 101, sg 109, sg 101, sg 110, sg 116, sg 115, sg 32, sg 108, sg 111, sg 111, sg 112, sg 46, sg 101, sg 120, sg 97, sg 109, sg 112, sg 108, sg 101, sg 47, sg 103, sg 48, sg 49, sg 51, sg 54, sg 51, sg 47, sg 108, sg 97, sg 119, sg 115, sg 46, sg 70, sg 110, sg 69, sg 120, sg 97, sg 99, sg 116, sg 82, sg 101, sg 103, sg 117, sg 108, sg 97, sg 114, sg 67, sg 108, sg 97, sg 115, sg 115, sg 101, sg 115, sg 32, sg 108, sg 111, sg 111, sg 112, sg 46, sg 101, sg 120, sg 97, sg 109, sg 112, sg 108, sg 101, sg 47, sg 103, sg 48, sg 49, sg 51, sg 54, sg 51, sg 47, sg 108, sg 97, sg 119, sg 115, sg 46, sg 70, sg 110, sg 69, sg 120, sg 97, sg 99, sg 116, sg 84, sg 114, sg 97, sg 110, sg 115, sg 102, sg 101, sg 114, sg 67, sg 111, sg 99, sg 104, sg 97, sg 105, sg 110]
set_option maxRecDepth 100000 in
theorem jp_chars : Tryz.prog.initOrder = String.ofList jp_L := by kernel_rfl
theorem jp_list : Tryz.prog.initOrder.toList = jp_L := by rw [jp_chars, String.toList_ofList]
set_option maxRecDepth 100000 in
theorem jp_head : (behindMainWord (wordsSigns jp_L)).head? = some "cut".toList := by kernel_rfl
theorem jp_words : ∃ R, behindMainWord (wordsSigns Tryz.prog.initOrder.toList) = "cut".toList :: R := by
  rw [jp_list]
  exact List.head?_eq_some_iff.1 jp_head
theorem strip_cut (R : List (List Char)) : stripLifts liftWords ("cut".toList :: R) = ([], "cut".toList :: R) := by rfl
section
variable {P : Program} {R : List (List Char)} (hR : behindMainWord (wordsSigns P.initOrder.toList) = "cut".toList :: R)
include hR
theorem lifts_cut : P.headLifts = [] := by
  unfold Program.headLifts
  rw [hR, strip_cut]
  rfl
theorem final_cut : P.liftsFinal = false := by
  unfold Program.liftsFinal
  rw [hR, lifts_cut hR]
  rfl
theorem make_cut : P.make = some .cut := by
  unfold Program.make
  rw [hR]
  rfl
theorem enter_cut (h1 : P.laysLater = false) (h2 : P.bearsReflect = false) (h3 : P.doorFits [] = true) : P.mayEnter = true := by
  unfold Program.mayEnter
  rw [hR]
  dsimp only
  rw [strip_cut]
  dsimp only
  rw [h1, h2, h3]
  rfl
end
theorem jp_final : Program.liftsFinal Tryz.prog = false := by
  obtain ⟨R, hR⟩ := jp_words
  exact final_cut hR
theorem jp_make : Program.make Tryz.prog = some .cut := by
  obtain ⟨R, hR⟩ := jp_words
  exact make_cut hR
theorem jp_later : Program.laysLater Tryz.prog = false := by kernel_rfl
theorem jp_reflect : Program.bearsReflect Tryz.prog = false := by kernel_rfl
theorem jp_door : Program.doorFits Tryz.prog [] = true := by kernel_rfl
theorem jp_enter : Program.mayEnter Tryz.prog = true := by
  obtain ⟨R, hR⟩ := jp_words
  exact enter_cut hR jp_later jp_reflect jp_door

end Go.Proofs.YtcdijeeabgmgmaaGreatDoor
