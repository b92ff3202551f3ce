/- (moved: XEngMb) -/
import Derived.Test.YthcdiaahpodkoabEngT
