/- (moved: XEngMb) -/
import Derived.Test.YtnablcacdfebfaaEngT
