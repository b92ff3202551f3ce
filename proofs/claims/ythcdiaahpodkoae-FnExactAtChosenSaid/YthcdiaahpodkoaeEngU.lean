/- (moved: XEngMb) -/
import Derived.Test.YthcdiaahpodkoaeEngT
