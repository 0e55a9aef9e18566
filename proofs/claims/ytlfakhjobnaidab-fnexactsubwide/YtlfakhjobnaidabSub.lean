/- Both. -/
import Derived.Test.YtlfakhjobnaidabSpecSub
import Derived.Test.YtlfakhjobnaidabImplSub
