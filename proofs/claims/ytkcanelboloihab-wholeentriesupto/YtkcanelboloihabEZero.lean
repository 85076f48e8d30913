import Derived.Test.YtkcanelboloihabERoot
namespace Go.Proofs.Ytkcanelboloihab
open Go.RowKit
def Try.zeroCells29 : Array Value := #[.int .u64 0, .int .u8 0, .int .u8 0, .int .u8 0, .int .u8 0, .int .u8 0, .int .u8 0, .int .u8 0, .int .u8 0, .int .u8 0, .int .u8 0, .int .u8 0, .int .u8 0, .int .u8 0, .int .u8 0, .int .u8 0, .int .u8 0, .int .u8 0, .int .u8 0, .int .u8 0, .int .u8 0, .int .u8 0, .int .u8 0, .int .u8 0, .int .u8 0, .int .u8 0, .int .u8 0, .int .u8 0, .int .u8 0, .int .u8 0, .int .u8 0, .int .u8 0, .int .u8 0, .int .u8 0, .int .u8 0, .int .u8 0, .int .u8 0, .int .u8 0, .int .u8 0, .int .u8 0, .int .u8 0, .int .u8 0, .int .u8 0, .int .u8 0, .int .u8 0, .int .u8 0, .int .u8 0, .int .u8 0, .int .u8 0, .int .u8 0, .int .u8 0, .int .u8 0, .int .u8 0, .int .u8 0, .int .u8 0, .int .u8 0, .int .u8 0, .int .u8 0, .int .u8 0, .int .u8 0, .int .u8 0, .int .u8 0, .int .u8 0, .int .u8 0, .int .u8 0]
@[simp] theorem Try.zeroValue29 (w : World) : (zeroValue 29).run Try.prog w = .ok (.agg Try.zeroCells29) w := by kernel_rfl
@[simp] theorem Try.zeroCells29_ne : Try.zeroCells29 ≠ #[] := by unfold Try.zeroCells29; intro h; have h9 := congrArg Array.size h; simp at h9
end Go.Proofs.Ytkcanelboloihab
