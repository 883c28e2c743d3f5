/-
  The hashes of three letters, reckoned by the kernel.
-/
import Derived.Test.YtghjndcbnnbloaaDoorSm32
import Derived.Test.YtghjndcbnnbloaaDoorSm64
import Derived.Test.YtghjndcbnnbloaaDoorHx
namespace Go.Proofs.YtghjndcbnnbloaaDoor
theorem hex_abc256 : hexL (sha256 [97, 98, 99]) = abc256 := by decide +kernel
theorem hex_abc512 : hexL (sha512 [97, 98, 99]) = abc512 := by decide +kernel
end Go.Proofs.YtghjndcbnnbloaaDoor
