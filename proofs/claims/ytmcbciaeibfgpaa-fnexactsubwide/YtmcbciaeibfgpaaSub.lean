/- Both. -/
import Derived.Test.YtmcbciaeibfgpaaSpecSub
import Derived.Test.YtmcbciaeibfgpaaImplSub
