/- (moved: XEngMb) -/
import Derived.Test.YtgcicmlfalmamaaEngT
