/- (moved: XEngMb) -/
import Derived.Test.YtnablcacdfebfaeQEngT
