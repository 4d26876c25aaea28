/- Ceil, of the document's answer. -/
import Derived.Test.YtjleflfncijnpaaRows
import Derived.Test.YtjleflfncijnpaaBase
import Derived.Test.YtjleflfncijnpaaFacts
import Derived.Test.YtjleflfncijnpaaTwo
import Derived.Deep.RegionHeld3
import Derived.Deep.RegionWith
import Derived.Deep.QuietTactic
import Derived.BigQuiet
import Derived.Test.YtjleflfncijnpaaW
import Derived.Test.YtjleflfncijnpaaAsks
import Derived.Test.YtjleflfncijnpaaOut
import Derived.Test.YtjleflfncijnpaaSeq
import Derived.Test.YtjleflfncijnpaaTwo
import Derived.Test.YtjleflfncijnpaaOne
import Derived.Test.YtjleflfncijnpaaQuo
import Derived.Test.YtjleflfncijnpaaScaleM
import Derived.Test.YtjleflfncijnpaaQuoL
import Derived.Test.YtjleflfncijnpaaTurnM
set_option linter.unusedVariables false
set_option linter.unusedSimpArgs false
set_option maxHeartbeats 4000000
set_option maxRecDepth 100000
namespace Go.Proofs.Ytjleflfncijnpaa
open Go Go.RowKit
theorem rceil_any (x k : Int) (w : World) (hx : -170141183460469231731687303715884105728 < x ∧ x < 170141183460469231731687303715884105728) (hk : 0 < k ∧ k < 85070591730234615865843651857942052864) :
    Calls Try.prog 127 #[.agg #[.int .i64 (hiW x), .int .u64 (loW x)], .agg #[.int .i64 (hiW k), .int .u64 (loW k)]] w fun e w' => e = .returned (.agg #[.int .i64 (hiW (cdQ x k)), .int .u64 (loW (cdQ x k))]) ∧ Below w.heap.size w w' := by
  have hq := hid (fun W => rquo_any x k W hx hk)
  go_enter Try.func127, Try.ntmps127
  go_wp2_with (go_at_call 116; refine use w (w.heap.size + 1 + 1 + 1) (hq.out _) (by go_grown) (by go_size) ?_; rintro e w1 rfl hB1 hc1 hf1 hl1 hs1; have hl10 : w.heap.size < w1.heap.size := hl1 _ (by omega); have hl11 : w.heap.size + 1 < w1.heap.size := hl1 _ (by omega); have hl12 : w.heap.size + 1 + 1 < w1.heap.size := hl1 _ (by omega))
  all_goals (refine' bodyPost_ret (res_st rfl isA_W isS_W rfl ?_ ?_) rfl ?_; rotate_left 2; (· ((try simp only [World.cell?_drew]); first | (with_reducible exact two_0 (by assumption)) | (with_reducible exact two_1 (by assumption)) | (with_reducible exact two_other (two_0 (by assumption)) (by simp)) | (with_reducible exact two_other (two_1 (by assumption)) (by simp)) | (with_reducible exact two_0 (two_other (by assumption) (by simp))) | (with_reducible exact two_1 (two_other (by assumption) (by simp))) | (simp (maxDischargeDepth := 8) [go_sem, hHeld]; rfl) | (simp (maxDischargeDepth := 8) [go_sem, *]; rfl) | (simp (maxDischargeDepth := 8) [go_sem, *]; done))); (· ((try simp only [World.cell?_drew]); first | (with_reducible exact two_0 (by assumption)) | (with_reducible exact two_1 (by assumption)) | (with_reducible exact two_other (two_0 (by assumption)) (by simp)) | (with_reducible exact two_other (two_1 (by assumption)) (by simp)) | (with_reducible exact two_0 (two_other (by assumption) (by simp))) | (with_reducible exact two_1 (two_other (by assumption) (by simp))) | (simp (maxDischargeDepth := 8) [go_sem, hHeld]; rfl) | (simp (maxDischargeDepth := 8) [go_sem, *]; rfl) | (simp (maxDischargeDepth := 8) [go_sem, *]; done))); refine ⟨ret_w ?_ ?_, by go_grown⟩ <;> (rfl))
end Go.Proofs.Ytjleflfncijnpaa
