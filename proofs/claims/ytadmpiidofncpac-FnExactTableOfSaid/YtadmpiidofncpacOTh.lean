/- Entries of a table that have been found by runs. -/
import Derived.Test.YtadmpiidofncpacOTh0
import Derived.Test.YtadmpiidofncpacOTh1
import Derived.Test.YtadmpiidofncpacOTh2
import Derived.Test.YtadmpiidofncpacOTh3
import Derived.Test.YtadmpiidofncpacOTh4
import Derived.Test.YtadmpiidofncpacOTh5
import Derived.Test.YtadmpiidofncpacOTh6
namespace Go.Proofs.Ytadmpiidofncpac.th
open Go Go.Proofs Go.Eng
set_option maxRecDepth 100000
theorem t1A : Always Try.prog t1S := orS_always (grpS_always (noSums_always _) _ t1O) (noSums_always _)
theorem t2_0A : Always Try.prog t2_0S := orS_always (grpS_always t1A _ t2_0O) t1A
theorem t2_1A : Always Try.prog t2_1S := orS_always (grpS_always t1A _ t2_1O) t2_0A
theorem t2_2A : Always Try.prog t2_2S := orS_always (grpS_always t1A _ t2_2O) t2_1A
theorem t2_3A : Always Try.prog t2_3S := orS_always (grpS_always t1A _ t2_3O) t2_2A
theorem t3_0A : Always Try.prog t3_0S := orS_always (grpS_always t2_3A _ t3_0O) t2_3A
theorem t3_1A : Always Try.prog t3_1S := orS_always (grpS_always t2_3A _ t3_1O) t3_0A
theorem t3_2A : Always Try.prog t3_2S := orS_always (grpS_always t2_3A _ t3_2O) t3_1A
theorem t3_3A : Always Try.prog t3_3S := orS_always (grpS_always t2_3A _ t3_3O) t3_2A
theorem t3_4A : Always Try.prog t3_4S := orS_always (grpS_always t2_3A _ t3_4O) t3_3A
theorem t3_5A : Always Try.prog t3_5S := orS_always (grpS_always t2_3A _ t3_5O) t3_4A
theorem t3_6A : Always Try.prog t3_6S := orS_always (grpS_always t2_3A _ t3_6O) t3_5A
theorem t3_7A : Always Try.prog t3_7S := orS_always (grpS_always t2_3A _ t3_7O) t3_6A
theorem t3_8A : Always Try.prog t3_8S := orS_always (grpS_always t2_3A _ t3_8O) t3_7A
theorem t4_0A : Always Try.prog t4_0S := orS_always (grpS_always t3_8A _ t4_0O) t3_8A
theorem t4_1A : Always Try.prog t4_1S := orS_always (grpS_always t3_8A _ t4_1O) t4_0A
theorem t4_2A : Always Try.prog t4_2S := orS_always (grpS_always t3_8A _ t4_2O) t4_1A
theorem t4_3A : Always Try.prog t4_3S := orS_always (grpS_always t3_8A _ t4_3O) t4_2A
theorem t4_4A : Always Try.prog t4_4S := orS_always (grpS_always t3_8A _ t4_4O) t4_3A
theorem t4_5A : Always Try.prog t4_5S := orS_always (grpS_always t3_8A _ t4_5O) t4_4A
theorem t4_6A : Always Try.prog t4_6S := orS_always (grpS_always t3_8A _ t4_6O) t4_5A
theorem t4_7A : Always Try.prog t4_7S := orS_always (grpS_always t3_8A _ t4_7O) t4_6A
theorem t4_8A : Always Try.prog t4_8S := orS_always (grpS_always t3_8A _ t4_8O) t4_7A
theorem t4_9A : Always Try.prog t4_9S := orS_always (grpS_always t3_8A _ t4_9O) t4_8A
theorem t5_0A : Always Try.prog t5_0S := orS_always (grpS_always t4_9A _ t5_0O) t4_9A
theorem t5_1A : Always Try.prog t5_1S := orS_always (grpS_always t4_9A _ t5_1O) t5_0A
theorem t5_2A : Always Try.prog t5_2S := orS_always (grpS_always t4_9A _ t5_2O) t5_1A
theorem t5_3A : Always Try.prog t5_3S := orS_always (grpS_always t4_9A _ t5_3O) t5_2A
theorem t5_4A : Always Try.prog t5_4S := orS_always (grpS_always t4_9A _ t5_4O) t5_3A
theorem t6_0A : Always Try.prog t6_0S := orS_always (grpS_always t5_4A _ t6_0O) t5_4A
theorem t6_1A : Always Try.prog t6_1S := orS_always (grpS_always t5_4A _ t6_1O) t6_0A
theorem t6_2A : Always Try.prog t6_2S := orS_always (grpS_always t5_4A _ t6_2O) t6_1A
theorem t6_3A : Always Try.prog t6_3S := orS_always (grpS_always t5_4A _ t6_3O) t6_2A
theorem t6_4A : Always Try.prog t6_4S := orS_always (grpS_always t5_4A _ t6_4O) t6_3A
theorem t6_5A : Always Try.prog t6_5S := orS_always (grpS_always t5_4A _ t6_5O) t6_4A
theorem t6_6A : Always Try.prog t6_6S := orS_always (grpS_always t5_4A _ t6_6O) t6_5A
theorem t6_7A : Always Try.prog t6_7S := orS_always (grpS_always t5_4A _ t6_7O) t6_6A
theorem t6_8A : Always Try.prog t6_8S := orS_always (grpS_always t5_4A _ t6_8O) t6_7A
theorem t6_9A : Always Try.prog t6_9S := orS_always (grpS_always t5_4A _ t6_9O) t6_8A
theorem t6_10A : Always Try.prog t6_10S := orS_always (grpS_always t5_4A _ t6_10O) t6_9A
theorem s1_0A : Always Try.prog s1_0S := orS_always (grpS_always (noSums_always _) _ s1_0O) (noSums_always _)
theorem s1_1A : Always Try.prog s1_1S := orS_always (grpS_always (noSums_always _) _ s1_1O) s1_0A
theorem s1_2A : Always Try.prog s1_2S := orS_always (grpS_always (noSums_always _) _ s1_2O) s1_1A
theorem s1_3A : Always Try.prog s1_3S := orS_always (grpS_always (noSums_always _) _ s1_3O) s1_2A
theorem s1_4A : Always Try.prog s1_4S := orS_always (grpS_always (noSums_always _) _ s1_4O) s1_3A
theorem s1_5A : Always Try.prog s1_5S := orS_always (grpS_always (noSums_always _) _ s1_5O) s1_4A
theorem s1_6A : Always Try.prog s1_6S := orS_always (grpS_always (noSums_always _) _ s1_6O) s1_5A
theorem s1_7A : Always Try.prog s1_7S := orS_always (grpS_always (noSums_always _) _ s1_7O) s1_6A
theorem s1_8A : Always Try.prog s1_8S := orS_always (grpS_always (noSums_always _) _ s1_8O) s1_7A
theorem s1_9A : Always Try.prog s1_9S := orS_always (grpS_always (noSums_always _) _ s1_9O) s1_8A
theorem s2_0A : Always Try.prog s2_0S := orS_always (grpS_always s1_9A _ s2_0O) s1_9A
theorem s2_1A : Always Try.prog s2_1S := orS_always (grpS_always s1_9A _ s2_1O) s2_0A
theorem s2_2A : Always Try.prog s2_2S := orS_always (grpS_always s1_9A _ s2_2O) s2_1A
theorem s2_3A : Always Try.prog s2_3S := orS_always (grpS_always s1_9A _ s2_3O) s2_2A
theorem s2_4A : Always Try.prog s2_4S := orS_always (grpS_always s1_9A _ s2_4O) s2_3A
theorem s2_5A : Always Try.prog s2_5S := orS_always (grpS_always s1_9A _ s2_5O) s2_4A
theorem s2_6A : Always Try.prog s2_6S := orS_always (grpS_always s1_9A _ s2_6O) s2_5A
theorem s2_7A : Always Try.prog s2_7S := orS_always (grpS_always s1_9A _ s2_7O) s2_6A
theorem s2_8A : Always Try.prog s2_8S := orS_always (grpS_always s1_9A _ s2_8O) s2_7A
theorem s2_9A : Always Try.prog s2_9S := orS_always (grpS_always s1_9A _ s2_9O) s2_8A
theorem s2_10A : Always Try.prog s2_10S := orS_always (grpS_always s1_9A _ s2_10O) s2_9A
theorem s2_11A : Always Try.prog s2_11S := orS_always (grpS_always s1_9A _ s2_11O) s2_10A
theorem s2_12A : Always Try.prog s2_12S := orS_always (grpS_always s1_9A _ s2_12O) s2_11A
theorem s2_13A : Always Try.prog s2_13S := orS_always (grpS_always s1_9A _ s2_13O) s2_12A
theorem s2_14A : Always Try.prog s2_14S := orS_always (grpS_always s1_9A _ s2_14O) s2_13A
theorem s2_15A : Always Try.prog s2_15S := orS_always (grpS_always s1_9A _ s2_15O) s2_14A
theorem s2_16A : Always Try.prog s2_16S := orS_always (grpS_always s1_9A _ s2_16O) s2_15A
theorem s3_0A : Always Try.prog s3_0S := orS_always (grpS_always s2_16A _ s3_0O) s2_16A
theorem s3_1A : Always Try.prog s3_1S := orS_always (grpS_always s2_16A _ s3_1O) s3_0A
theorem s3_2A : Always Try.prog s3_2S := orS_always (grpS_always s2_16A _ s3_2O) s3_1A
theorem s3_3A : Always Try.prog s3_3S := orS_always (grpS_always s2_16A _ s3_3O) s3_2A
theorem s3_4A : Always Try.prog s3_4S := orS_always (grpS_always s2_16A _ s3_4O) s3_3A
theorem s3_5A : Always Try.prog s3_5S := orS_always (grpS_always s2_16A _ s3_5O) s3_4A
theorem s3_6A : Always Try.prog s3_6S := orS_always (grpS_always s2_16A _ s3_6O) s3_5A
theorem s3_7A : Always Try.prog s3_7S := orS_always (grpS_always s2_16A _ s3_7O) s3_6A
theorem s3_8A : Always Try.prog s3_8S := orS_always (grpS_always s2_16A _ s3_8O) s3_7A
theorem s4_0A : Always Try.prog s4_0S := orS_always (grpS_always s3_8A _ s4_0O) s3_8A
theorem s4_1A : Always Try.prog s4_1S := orS_always (grpS_always s3_8A _ s4_1O) s4_0A
theorem s4_2A : Always Try.prog s4_2S := orS_always (grpS_always s3_8A _ s4_2O) s4_1A
theorem s4_3A : Always Try.prog s4_3S := orS_always (grpS_always s3_8A _ s4_3O) s4_2A
theorem s4_4A : Always Try.prog s4_4S := orS_always (grpS_always s3_8A _ s4_4O) s4_3A
theorem s5A : Always Try.prog s5S := orS_always (grpS_always s4_4A _ s5O) s4_4A
theorem mA : Always Try.prog m := (orS_always (grpS_always t6_10A _ e_8O) (orS_always (grpS_always t6_10A _ e_7O) (orS_always (grpS_always t6_10A _ e_6O) (orS_always (grpS_always t6_10A _ e_5O) (orS_always (grpS_always t6_10A _ e_4O) (orS_always (grpS_always t6_10A _ e_3O) (orS_always (grpS_always t6_10A _ e_2O) (orS_always (grpS_always t6_10A _ e_1O) (orS_always (grpS_always t6_10A _ e_0O) s5A)))))))))
end Go.Proofs.Ytadmpiidofncpac.th
