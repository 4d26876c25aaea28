/- Facts on the types of this translation, by the kernel. -/
import Derived.Test.YtjleflfncijnpaaDoorRows
import Derived.Test.YtjleflfncijnpaaDoorBase
namespace Go.Proofs.YtjleflfncijnpaaDoor
open Go Go.RowKit
theorem isA_S : ∀ w, (isAgg 24).run Tryd.prog w = .ok true w := fun _ => by kernel_rfl
theorem isS_S : ∀ w, (sizeOf 24).run Tryd.prog w = .ok 2 w := fun _ => by kernel_rfl
theorem isA_W : ∀ w, (isAgg 56).run Tryd.prog w = .ok true w := fun _ => by kernel_rfl
theorem isS_W : ∀ w, (sizeOf 56).run Tryd.prog w = .ok 2 w := fun _ => by kernel_rfl
theorem isA_v : ∀ w, (isAgg 126).run Tryd.prog w = .ok true w := fun _ => by kernel_rfl
theorem isS_v : ∀ w, (sizeOf 126).run Tryd.prog w = .ok 2 w := fun _ => by kernel_rfl
end Go.Proofs.YtjleflfncijnpaaDoor
