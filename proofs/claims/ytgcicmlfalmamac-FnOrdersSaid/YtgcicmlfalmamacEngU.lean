/- (moved: XEngMb) -/
import Derived.Test.YtgcicmlfalmamacEngT
