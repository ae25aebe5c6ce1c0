/- Two short names. -/
import Derived.Below
namespace Go.Proofs.YtfghofifjnbicaaGreatDoor
open Go Go.RowKit
theorem Zr {n:Nat}:n≤n:=Nat.le_refl n
theorem Zb {L:Nat} {w:World}:Below L w w:=Below.refl L w
end Go.Proofs.YtfghofifjnbicaaGreatDoor
