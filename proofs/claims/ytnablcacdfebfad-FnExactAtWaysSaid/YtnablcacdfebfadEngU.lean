/- (moved: XEngMb) -/
import Derived.Test.YtnablcacdfebfadEngT
