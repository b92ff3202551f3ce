/- (moved: XEngMb) -/
import Derived.Test.YtnablcacdfebfaeEngT
