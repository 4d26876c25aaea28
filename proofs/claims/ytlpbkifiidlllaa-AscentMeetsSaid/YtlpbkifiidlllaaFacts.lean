/- Facts on the types of this translation, by the kernel. -/
import Derived.Test.YtlpbkifiidlllaaRows
import Derived.Test.YtlpbkifiidlllaaBase
namespace Go.Proofs.Ytlpbkifiidlllaa
open Go Go.RowKit
end Go.Proofs.Ytlpbkifiidlllaa
