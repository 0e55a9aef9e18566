/- The distance, bounded. -/
namespace Go.Proofs.Ytlfakhjobnaidab
def bnd (n : Int) : Int := if n < 0 then 0 else if 128 < n then 128 else n
end Go.Proofs.Ytlfakhjobnaidab
