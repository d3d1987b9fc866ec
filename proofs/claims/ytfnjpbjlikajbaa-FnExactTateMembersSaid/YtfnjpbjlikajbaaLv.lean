/- A call that starts no goroutine, under a row that says 'leaving': whoever is alone at the return only leaves. -/
import Derived.Test.YtfnjpbjlikajbaaBa
import Derived.Conc.Holds
import Derived.Leaving
namespace Go.Proofs.Ytfnjpbjlikajbaa

theorem leaving_of_handed {a : Assume} {C : Checked} {os : Os} {f : FuncId} {r : Reach} {Pre : World → Array Value → Prop} {Post : World → Array Value → Value → World → Prop}
    (h : ReturnsInHanded a C os f r Pre Post) : ReturnsInLeavingWide a C os f r Pre Post :=
  fun e => ReturnsInOpen.mono (fun _ _ _ x => ⟨x.2.1, onlyLeaving_of_quiet x.1, x.2.2⟩) (fun _ x => x) (h e)

end Go.Proofs.Ytfnjpbjlikajbaa
