/- The distance, bounded. -/
import Derived.WalkKit
namespace Go.Proofs.Ytmcbciaeibfgpaa
def bnd (n : Int) : Int := if n < 0 then 0 else if 128 < n then 128 else n
open Go.RowKit
theorem world_w {w : World} {o : Obj} {t : TypeId} {x x' y y' : Int} (h1 : x = x') (h2 : y = y') : (w.alloc (.cells #[.int .u64 x, .int .u64 y] t)).alloc o = (w.alloc (.cells #[.int .u64 x', .int .u64 y'] t)).alloc o := by rw [h1, h2]
end Go.Proofs.Ytmcbciaeibfgpaa
