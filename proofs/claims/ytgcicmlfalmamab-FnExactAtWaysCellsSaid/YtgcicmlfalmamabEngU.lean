/- (moved: XEngMb) -/
import Derived.Test.YtgcicmlfalmamabEngT
