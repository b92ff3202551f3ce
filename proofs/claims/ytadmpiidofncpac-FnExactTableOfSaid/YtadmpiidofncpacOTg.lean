/- Entries of a table that have been found by runs. -/
import Derived.Test.YtadmpiidofncpacOTg0
import Derived.Test.YtadmpiidofncpacOTg1
namespace Go.Proofs.Ytadmpiidofncpac.tg
open Go Go.Proofs Go.Eng
set_option maxRecDepth 100000
theorem t1A : Always Try.prog t1S := orS_always (grpS_always (noSums_always _) _ t1O) (noSums_always _)
theorem t2A : Always Try.prog t2S := orS_always (grpS_always t1A _ t2O) t1A
theorem t3A : Always Try.prog t3S := orS_always (grpS_always t2A _ t3O) t2A
theorem t4A : Always Try.prog t4S := orS_always (grpS_always t3A _ t4O) t3A
theorem t5_0A : Always Try.prog t5_0S := orS_always (grpS_always t4A _ t5_0O) t4A
theorem t5_1A : Always Try.prog t5_1S := orS_always (grpS_always t4A _ t5_1O) t5_0A
theorem t6_0A : Always Try.prog t6_0S := orS_always (grpS_always t5_1A _ t6_0O) t5_1A
theorem t6_1A : Always Try.prog t6_1S := orS_always (grpS_always t5_1A _ t6_1O) t6_0A
theorem t6_2A : Always Try.prog t6_2S := orS_always (grpS_always t5_1A _ t6_2O) t6_1A
theorem t6_3A : Always Try.prog t6_3S := orS_always (grpS_always t5_1A _ t6_3O) t6_2A
theorem s1A : Always Try.prog s1S := orS_always (grpS_always (noSums_always _) _ s1O) (noSums_always _)
theorem s2A : Always Try.prog s2S := orS_always (grpS_always s1A _ s2O) s1A
theorem s3A : Always Try.prog s3S := orS_always (grpS_always s2A _ s3O) s2A
theorem s4A : Always Try.prog s4S := orS_always (grpS_always s3A _ s4O) s3A
theorem s5_0A : Always Try.prog s5_0S := orS_always (grpS_always s4A _ s5_0O) s4A
theorem s5_1A : Always Try.prog s5_1S := orS_always (grpS_always s4A _ s5_1O) s5_0A
theorem s6_0A : Always Try.prog s6_0S := orS_always (grpS_always s5_1A _ s6_0O) s5_1A
theorem s6_1A : Always Try.prog s6_1S := orS_always (grpS_always s5_1A _ s6_1O) s6_0A
theorem s6_2A : Always Try.prog s6_2S := orS_always (grpS_always s5_1A _ s6_2O) s6_1A
theorem s6_3A : Always Try.prog s6_3S := orS_always (grpS_always s5_1A _ s6_3O) s6_2A
theorem mA : Always Try.prog m := (orS_always (grpS_always t6_3A _ e_5O) (orS_always (grpS_always t6_3A _ e_4O) (orS_always (grpS_always t6_3A _ e_3O) (orS_always (grpS_always t6_3A _ e_2O) (orS_always (grpS_always t6_3A _ e_1O) (orS_always (grpS_always t6_3A _ e_0O) s6_3A))))))
end Go.Proofs.Ytadmpiidofncpac.tg
