/- Entries of a table that have been found by runs. -/
import Derived.Test.YtadmpiidofncpacOTp0
import Derived.Test.YtadmpiidofncpacOTp1
namespace Go.Proofs.Ytadmpiidofncpac.tp
open Go Go.Proofs Go.Eng
set_option maxRecDepth 100000
theorem t1A : Always Try.prog t1S := orS_always (grpS_always (noSums_always _) _ t1O) (noSums_always _)
theorem t2A : Always Try.prog t2S := orS_always (grpS_always t1A _ t2O) t1A
theorem t3_0A : Always Try.prog t3_0S := orS_always (grpS_always t2A _ t3_0O) t2A
theorem t3_1A : Always Try.prog t3_1S := orS_always (grpS_always t2A _ t3_1O) t3_0A
theorem t4_0A : Always Try.prog t4_0S := orS_always (grpS_always t3_1A _ t4_0O) t3_1A
theorem t4_1A : Always Try.prog t4_1S := orS_always (grpS_always t3_1A _ t4_1O) t4_0A
theorem t5_0A : Always Try.prog t5_0S := orS_always (grpS_always t4_1A _ t5_0O) t4_1A
theorem t5_1A : Always Try.prog t5_1S := orS_always (grpS_always t4_1A _ t5_1O) t5_0A
theorem t6_0A : Always Try.prog t6_0S := orS_always (grpS_always t5_1A _ t6_0O) t5_1A
theorem t6_1A : Always Try.prog t6_1S := orS_always (grpS_always t5_1A _ t6_1O) t6_0A
theorem t6_2A : Always Try.prog t6_2S := orS_always (grpS_always t5_1A _ t6_2O) t6_1A
theorem t6_3A : Always Try.prog t6_3S := orS_always (grpS_always t5_1A _ t6_3O) t6_2A
theorem s1A : Always Try.prog s1S := orS_always (grpS_always (noSums_always _) _ s1O) (noSums_always _)
theorem s2_0A : Always Try.prog s2_0S := orS_always (grpS_always s1A _ s2_0O) s1A
theorem s2_1A : Always Try.prog s2_1S := orS_always (grpS_always s1A _ s2_1O) s2_0A
theorem s2_2A : Always Try.prog s2_2S := orS_always (grpS_always s1A _ s2_2O) s2_1A
theorem s3_0A : Always Try.prog s3_0S := orS_always (grpS_always s2_2A _ s3_0O) s2_2A
theorem s3_1A : Always Try.prog s3_1S := orS_always (grpS_always s2_2A _ s3_1O) s3_0A
theorem s3_2A : Always Try.prog s3_2S := orS_always (grpS_always s2_2A _ s3_2O) s3_1A
theorem s4_0A : Always Try.prog s4_0S := orS_always (grpS_always s3_2A _ s4_0O) s3_2A
theorem s4_1A : Always Try.prog s4_1S := orS_always (grpS_always s3_2A _ s4_1O) s4_0A
theorem s4_2A : Always Try.prog s4_2S := orS_always (grpS_always s3_2A _ s4_2O) s4_1A
theorem s5_0A : Always Try.prog s5_0S := orS_always (grpS_always s4_2A _ s5_0O) s4_2A
theorem s5_1A : Always Try.prog s5_1S := orS_always (grpS_always s4_2A _ s5_1O) s5_0A
theorem s6_0A : Always Try.prog s6_0S := orS_always (grpS_always s5_1A _ s6_0O) s5_1A
theorem s6_1A : Always Try.prog s6_1S := orS_always (grpS_always s5_1A _ s6_1O) s6_0A
theorem s6_2A : Always Try.prog s6_2S := orS_always (grpS_always s5_1A _ s6_2O) s6_1A
theorem s6_3A : Always Try.prog s6_3S := orS_always (grpS_always s5_1A _ s6_3O) s6_2A
theorem mA : Always Try.prog m := (orS_always (grpS_always t6_3A _ e_5O) (orS_always (grpS_always t6_3A _ e_4O) (orS_always (grpS_always t6_3A _ e_3O) (orS_always (grpS_always t6_3A _ e_2O) (orS_always (grpS_always t6_3A _ e_1O) (orS_always (grpS_always t6_3A _ e_0O) s6_3A))))))
end Go.Proofs.Ytadmpiidofncpac.tp
