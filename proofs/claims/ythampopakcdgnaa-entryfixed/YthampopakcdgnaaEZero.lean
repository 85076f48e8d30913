import Derived.Test.YthampopakcdgnaaERoot
namespace Go.Proofs.Ythampopakcdgnaa
open Go.RowKit
def Try.zeroCells43 : Array Value := #[.int .u64 0, .int .u8 0, .int .u8 0, .int .u8 0, .int .u8 0, .int .u8 0, .int .u8 0, .int .u8 0, .int .u8 0, .int .u8 0, .int .u8 0, .int .u8 0, .int .u8 0, .int .u8 0, .int .u8 0, .int .u8 0, .int .u8 0, .int .u8 0, .int .u8 0, .int .u8 0, .int .u8 0, .int .u8 0, .int .u8 0, .int .u8 0, .int .u8 0, .int .u8 0, .int .u8 0, .int .u8 0, .int .u8 0, .int .u8 0, .int .u8 0, .int .u8 0, .int .u8 0, .int .u8 0, .int .u8 0, .int .u8 0, .int .u8 0, .int .u8 0, .int .u8 0, .int .u8 0, .int .u8 0, .int .u8 0, .int .u8 0, .int .u8 0, .int .u8 0, .int .u8 0, .int .u8 0, .int .u8 0, .int .u8 0, .int .u8 0, .int .u8 0, .int .u8 0, .int .u8 0, .int .u8 0, .int .u8 0, .int .u8 0, .int .u8 0, .int .u8 0, .int .u8 0, .int .u8 0, .int .u8 0, .int .u8 0, .int .u8 0, .int .u8 0, .int .u8 0]
@[simp] theorem Try.zeroValue43 (w : World) : (zeroValue 43).run Try.prog w = .ok (.agg Try.zeroCells43) w := by kernel_rfl
@[simp] theorem Try.zeroCells43_ne : Try.zeroCells43 ≠ #[] := by unfold Try.zeroCells43; intro h; have h9 := congrArg Array.size h; simp at h9
end Go.Proofs.Ythampopakcdgnaa
