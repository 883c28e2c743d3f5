/-
  The program's types: element sizes, zero values.
-/
import Derived.Test.YtaenhghihhhikaaDoorAea
import Derived.Test.YtaenhghihhhikaaDoorProg
import Derived.WalkKit
namespace Go.Proofs.YtaenhghihhhikaaDoor
theorem inf3 : Inf Tryd.prog 3 1 (.int .i64 0) := Inf.mk (b := 8) (by kernel_rfl) (by decide) rfl
theorem rel_zero3 : Rel (fun _ => none) (.i64 0) (.int .i64 0) := Rel.i64 0
theorem inf4 : Inf Tryd.prog 4 1 (.bool false) := Inf.mk (b := 1) (by kernel_rfl) (by decide) rfl
theorem rel_zero4 : Rel (fun _ => none) (.bool false) (.bool false) := Rel.bool false
theorem inf5 : Inf Tryd.prog 5 1 (.int .u8 0) := Inf.mk (b := 1) (by kernel_rfl) (by decide) rfl
theorem rel_zero5 : Rel (fun _ => none) (.u8 0) (.int .u8 0) := Rel.u8 0
theorem inf9 : Inf Tryd.prog 9 1 (.string ⟨#[]⟩) := Inf.mk (b := 16) (by kernel_rfl) (by decide) rfl
theorem rel_zero9 : Rel (fun _ => none) (.str []) (.string ⟨#[]⟩) := Rel.str []
theorem inf23 : Inf Tryd.prog 23 1 (.int .u32 0) := Inf.mk (b := 4) (by kernel_rfl) (by decide) rfl
theorem rel_zero23 : Rel (fun _ => none) (.u32 0) (.int .u32 0) := Rel.u32 0
theorem inf30 : Inf Tryd.prog 30 1 (.int .u64 0) := Inf.mk (b := 8) (by kernel_rfl) (by decide) rfl
theorem rel_zero30 : Rel (fun _ => none) (.u64 0) (.int .u64 0) := Rel.u64 0
theorem sz22 : (Tryd.prog.info? 22).map (·.size) = some 32 := by kernel_rfl
theorem zero22 : (Tryd.prog.info? 22).map (·.zero) = some (some (.agg (Array.replicate 32 (.int .u8 0)))) := by kernel_rfl
theorem rel_zero22 : Rel (fun _ => none) (.aggB (List.replicate 32 0)) (.agg (Array.replicate 32 (.int .u8 0))) := rz_B _ 32
theorem sz24 : (Tryd.prog.info? 24).map (·.size) = some 12 := by kernel_rfl
theorem zero24 : (Tryd.prog.info? 24).map (·.zero) = some (some (.agg (Array.replicate 12 (.int .u8 0)))) := by kernel_rfl
theorem rel_zero24 : Rel (fun _ => none) (.aggB (List.replicate 12 0)) (.agg (Array.replicate 12 (.int .u8 0))) := rz_B _ 12
theorem sz26 : (Tryd.prog.info? 26).map (·.size) = some 64 := by kernel_rfl
theorem zero26 : (Tryd.prog.info? 26).map (·.zero) = some (some (.agg (Array.replicate 64 (.int .u8 0)))) := by kernel_rfl
theorem rel_zero26 : Rel (fun _ => none) (.aggB (List.replicate 64 0)) (.agg (Array.replicate 64 (.int .u8 0))) := rz_B _ 64
theorem sz37 : (Tryd.prog.info? 37).map (·.size) = some 16 := by kernel_rfl
theorem zero37 : (Tryd.prog.info? 37).map (·.zero) = some (some (.agg (Array.replicate 16 (.int .u8 0)))) := by kernel_rfl
theorem rel_zero37 : Rel (fun _ => none) (.aggB (List.replicate 16 0)) (.agg (Array.replicate 16 (.int .u8 0))) := rz_B _ 16
theorem sz60 : (Tryd.prog.info? 60).map (·.size) = some 16 := by kernel_rfl
theorem zero60 : (Tryd.prog.info? 60).map (·.zero) = some (some (.agg (Array.replicate 16 (.int .u32 0)))) := by kernel_rfl
theorem rel_zero60 : Rel (fun _ => none) (.agg32 (List.replicate 16 0)) (.agg (Array.replicate 16 (.int .u32 0))) := rz_32 _ 16
theorem sz64 : (Tryd.prog.info? 64).map (·.size) = some 4 := by kernel_rfl
theorem zero64 : (Tryd.prog.info? 64).map (·.zero) = some (some (.agg (Array.replicate 4 (.int .i64 0)))) := by kernel_rfl
theorem rel_zero64 : Rel (fun _ => none) (.aggI (List.replicate 4 0)) (.agg (Array.replicate 4 (.int .i64 0))) := rz_I _ 4
theorem sz70 : (Tryd.prog.info? 70).map (·.size) = some 5 := by kernel_rfl
theorem zero70 : (Tryd.prog.info? 70).map (·.zero) = some (some (.agg (Array.replicate 5 (.int .u64 0)))) := by kernel_rfl
theorem rel_zero70 : Rel (fun _ => none) (.agg64 (List.replicate 5 0)) (.agg (Array.replicate 5 (.int .u64 0))) := rz_64 _ 5
theorem sz71 : (Tryd.prog.info? 71).map (·.size) = some 5 := by kernel_rfl
theorem zero71 : (Tryd.prog.info? 71).map (·.zero) = some (some (.agg (Array.replicate 5 (.int .u64 0)))) := by kernel_rfl
theorem rel_zero71 : Rel (fun _ => none) (.agg64 (List.replicate 5 0)) (.agg (Array.replicate 5 (.int .u64 0))) := rz_64 _ 5
theorem sz73 : (Tryd.prog.info? 73).map (·.size) = some 17 := by kernel_rfl
theorem zero73 : (Tryd.prog.info? 73).map (·.zero) = some (some (.agg (Array.replicate 17 (.int .u8 0)))) := by kernel_rfl
theorem rel_zero73 : Rel (fun _ => none) (.aggB (List.replicate 17 0)) (.agg (Array.replicate 17 (.int .u8 0))) := rz_B _ 17
theorem sz95 : (Tryd.prog.info? 95).map (·.size) = some 8 := by kernel_rfl
theorem zero95 : (Tryd.prog.info? 95).map (·.zero) = some (some (.agg (Array.replicate 8 (.int .u32 0)))) := by kernel_rfl
theorem rel_zero95 : Rel (fun _ => none) (.agg32 (List.replicate 8 0)) (.agg (Array.replicate 8 (.int .u32 0))) := rz_32 _ 8
theorem sz115 : (Tryd.prog.info? 115).map (·.size) = some 64 := by kernel_rfl
theorem zero115 : (Tryd.prog.info? 115).map (·.zero) = some (some (.agg (Array.replicate 64 (.int .u32 0)))) := by kernel_rfl
theorem rel_zero115 : Rel (fun _ => none) (.agg32 (List.replicate 64 0)) (.agg (Array.replicate 64 (.int .u32 0))) := rz_32 _ 64
end Go.Proofs.YtaenhghihhhikaaDoor
