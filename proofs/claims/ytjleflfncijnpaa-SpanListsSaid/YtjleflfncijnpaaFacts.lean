/- Facts on the types of this translation, by the kernel. -/
import Derived.Test.YtjleflfncijnpaaRows
import Derived.Test.YtjleflfncijnpaaBase
namespace Go.Proofs.Ytjleflfncijnpaa
open Go Go.RowKit
theorem isA_S : ∀ w, (isAgg 24).run Try.prog w = .ok true w := fun _ => by kernel_rfl
theorem isS_S : ∀ w, (sizeOf 24).run Try.prog w = .ok 2 w := fun _ => by kernel_rfl
theorem isA_W : ∀ w, (isAgg 78).run Try.prog w = .ok true w := fun _ => by kernel_rfl
theorem isS_W : ∀ w, (sizeOf 78).run Try.prog w = .ok 2 w := fun _ => by kernel_rfl
theorem isA_v : ∀ w, (isAgg 127).run Try.prog w = .ok true w := fun _ => by kernel_rfl
theorem isS_v : ∀ w, (sizeOf 127).run Try.prog w = .ok 2 w := fun _ => by kernel_rfl
end Go.Proofs.Ytjleflfncijnpaa
