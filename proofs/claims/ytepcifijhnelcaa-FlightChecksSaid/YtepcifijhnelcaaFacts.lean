/- Facts on the types of this translation, by the kernel. -/
import Derived.Test.YtepcifijhnelcaaRows
import Derived.Test.YtepcifijhnelcaaBase
namespace Go.Proofs.Ytepcifijhnelcaa
open Go Go.RowKit
theorem isA_S : ∀ w, (isAgg 24).run Try.prog w = .ok true w := fun _ => by kernel_rfl
theorem isS_S : ∀ w, (sizeOf 24).run Try.prog w = .ok 2 w := fun _ => by kernel_rfl
end Go.Proofs.Ytepcifijhnelcaa
