/-
  The key stream's bytes of one example. Nothing of the program is named here.
-/
import Derived.Test.YtaenhghihhhikaaDoorXc
import Derived.Test.YtaenhghihhhikaaDoorHx
namespace Go.Proofs.YtaenhghihhhikaaDoor
def key0 : List UInt8 := [0, 1, 2, 3, 4, 5, 6, 7, 8, 9, 10, 11, 12, 13, 14, 15, 16, 17, 18, 19, 20, 21, 22, 23, 24, 25, 26, 27, 28, 29, 30, 31]
def nonce0 : List UInt8 := [0, 0, 0, 9, 0, 0, 0, 74, 0, 0, 0, 0]
def hex0 : List UInt8 := [49, 48, 102, 49, 101, 55, 101, 52, 100, 49, 51, 98, 53, 57, 49, 53, 53, 48, 48, 102, 100, 100, 49, 102, 97, 51, 50, 48, 55, 49, 99, 52]
theorem block0 : hexL ((cBlock key0 1 nonce0).take 16) = hex0 := by decide +kernel
end Go.Proofs.YtaenhghihhhikaaDoor
