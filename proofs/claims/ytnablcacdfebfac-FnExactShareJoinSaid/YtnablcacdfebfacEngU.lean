/- (moved: XEngMb) -/
import Derived.Test.YtnablcacdfebfacEngT
