/- Turn, of the document's answer. -/
import Derived.Deep.DeepCutAuto
import Derived.Test.YtjleflfncijnpaaRows
import Derived.Test.YtjleflfncijnpaaBase
import Derived.Test.YtjleflfncijnpaaFacts
import Derived.Test.YtjleflfncijnpaaTwo
import Derived.Deep.RegionHeld3
import Derived.Deep.RegionWith
import Derived.Deep.QuietTactic
import Derived.BigQuiet
import Derived.Test.YtjleflfncijnpaaW
import Derived.Test.YtjleflfncijnpaaAsks
import Derived.Test.YtjleflfncijnpaaOut
import Derived.Test.YtjleflfncijnpaaSeq
import Derived.Test.YtjleflfncijnpaaTwo
import Derived.Test.YtjleflfncijnpaaOne
import Derived.Test.YtjleflfncijnpaaQuo
import Derived.Test.YtjleflfncijnpaaTimes
import Derived.Test.YtjleflfncijnpaaScaleM
import Derived.Test.YtjleflfncijnpaaQuoL
import Derived.Test.YtjleflfncijnpaaTurnM
import Derived.Test.YtjleflfncijnpaaTurn
import Derived.Test.YtjleflfncijnpaaTurnT
import Derived.Test.YtjleflfncijnpaaPicks
import Derived.Test.YtjleflfncijnpaaSets
set_option linter.unusedVariables false
set_option linter.unusedSimpArgs false
set_option maxHeartbeats 4000000
set_option maxRecDepth 100000
namespace Go.Proofs.Ytjleflfncijnpaa
open Go Go.RowKit
theorem rceil_any (x k : Int) (w : World) (hx : -170141183460469231731687303715884105728 < x ∧ x < 170141183460469231731687303715884105728) (hk : 0 < k ∧ k < 85070591730234615865843651857942052864) :
    Calls Try.prog 127 #[.agg #[.int .i64 (hiW x), .int .u64 (loW x)], .agg #[.int .i64 (hiW k), .int .u64 (loW k)]] w fun e w' => e = .returned (.agg #[.int .i64 (hiW (cdQ x k)), .int .u64 (loW (cdQ x k))]) ∧ Below w.heap.size w w' := by
  have hq := hid (fun W => rquo_any x k W hx hk)
  go_enter Try.func127, Try.ntmps127
  go_wp2_with (go_at_call 116; refine use w (w.heap.size + 1 + 1 + 1) (hq.out _) (by go_grown) (by go_size) ?_; rintro e w1 rfl hB1 hc1 hf1 hl1 hs1; have hl10 : w.heap.size < w1.heap.size := hl1 _ (by omega); have hl11 : w.heap.size + 1 < w1.heap.size := hl1 _ (by omega); have hl12 : w.heap.size + 1 + 1 < w1.heap.size := hl1 _ (by omega))
  all_goals (refine' bodyPost_ret (res_st rfl isA_W isS_W rfl ?_ ?_) rfl ?_; rotate_left 2; (· ((try simp only [World.cell?_drew]); first | (with_reducible exact two_0 (by assumption)) | (with_reducible exact two_1 (by assumption)) | (with_reducible exact two_other (two_0 (by assumption)) (by simp)) | (with_reducible exact two_other (two_1 (by assumption)) (by simp)) | (with_reducible exact two_0 (two_other (by assumption) (by simp))) | (with_reducible exact two_1 (two_other (by assumption) (by simp))) | (simp (maxDischargeDepth := 8) [go_sem, hHeld]; rfl) | (simp (maxDischargeDepth := 8) [go_sem, *]; rfl) | (simp (maxDischargeDepth := 8) [go_sem, *]; done))); (· ((try simp only [World.cell?_drew]); first | (with_reducible exact two_0 (by assumption)) | (with_reducible exact two_1 (by assumption)) | (with_reducible exact two_other (two_0 (by assumption)) (by simp)) | (with_reducible exact two_other (two_1 (by assumption)) (by simp)) | (with_reducible exact two_0 (two_other (by assumption) (by simp))) | (with_reducible exact two_1 (two_other (by assumption) (by simp))) | (simp (maxDischargeDepth := 8) [go_sem, hHeld]; rfl) | (simp (maxDischargeDepth := 8) [go_sem, *]; rfl) | (simp (maxDischargeDepth := 8) [go_sem, *]; done))); refine ⟨ret_w ?_ ?_, by go_grown⟩ <;> (rfl))
theorem res_4 {P : Program} {fn : Func} {p q r s : Tmp} {t : TypeId} {tmps : Array Value} {w : World} {b c d e : Nat} {v0 v1 u0 u1 x0 x1 y0 y1 : Value} (h : fn.results = #[.cell p t, .cell q t, .cell r t, .cell s t]) (hA : ∀ w, (isAgg t).run P w = .ok true w) (hS : ∀ w, (sizeOf t).run P w = .ok 2 w)
    (hp : tmps.getD p undef = .pointer (some ⟨b, 0, none⟩)) (hq : tmps.getD q undef = .pointer (some ⟨c, 0, none⟩)) (hr : tmps.getD r undef = .pointer (some ⟨d, 0, none⟩)) (hs : tmps.getD s undef = .pointer (some ⟨e, 0, none⟩))
    (c0 : w.cell? ⟨b, 0, none⟩ = some v0) (c1 : w.cell? ⟨b, 1, none⟩ = some v1) (d0 : w.cell? ⟨c, 0, none⟩ = some u0) (d1 : w.cell? ⟨c, 1, none⟩ = some u1)
    (e0 : w.cell? ⟨d, 0, none⟩ = some x0) (e1 : w.cell? ⟨d, 1, none⟩ = some x1) (f0 : w.cell? ⟨e, 0, none⟩ = some y0) (f1 : w.cell? ⟨e, 1, none⟩ = some y1) :
    (results fn tmps).run P w = .ok (.tuple #[.agg #[v0, v1], .agg #[u0, u1], .agg #[x0, x1], .agg #[y0, y1]]) w := by
  have hl := load2 (P := P) hA hS c0 c1
  have hl2 := load2 (P := P) hA hS d0 d1
  have hl3 := load2 (P := P) hA hS e0 e1
  have hl4 := load2 (P := P) hA hS f0 f1
  have hp' : tmps[p]?.getD undef = .pointer (some ⟨b, 0, none⟩) := by simpa using hp
  have hq' : tmps[q]?.getD undef = .pointer (some ⟨c, 0, none⟩) := by simpa using hq
  have hr' : tmps[r]?.getD undef = .pointer (some ⟨d, 0, none⟩) := by simpa using hr
  have hs' : tmps[s]?.getD undef = .pointer (some ⟨e, 0, none⟩) := by simpa using hs
  simp only [results, h]
  simp [Sem.run_bind, asAddr, hp', hq', hr', hs', hl, hl2, hl3, hl4]
/-- The cells of the results and of the divisor. -/
def T7 (B Bp : Nat) (P : Int) : World → Prop := (fun w' => w'.cell? ⟨B, 0, none⟩ = some (.int .i64 0) ∧ w'.cell? ⟨B, 1, none⟩ = some (.int .u64 0) ∧ w'.frozen? ⟨B, 0, none⟩ = false ∧ w'.frozen? ⟨B, 1, none⟩ = false ∧ w'.cell? ⟨B + 1, 0, none⟩ = some (.int .i64 0) ∧ w'.cell? ⟨B + 1, 1, none⟩ = some (.int .u64 0) ∧ w'.frozen? ⟨B + 1, 0, none⟩ = false ∧ w'.frozen? ⟨B + 1, 1, none⟩ = false ∧ w'.cell? ⟨B + 1 + 1, 0, none⟩ = some (.int .i64 0) ∧ w'.cell? ⟨B + 1 + 1, 1, none⟩ = some (.int .u64 0) ∧ w'.frozen? ⟨B + 1 + 1, 0, none⟩ = false ∧ w'.frozen? ⟨B + 1 + 1, 1, none⟩ = false ∧ w'.cell? ⟨B + 1 + 1 + 1, 0, none⟩ = some (.int .i64 0) ∧ w'.cell? ⟨B + 1 + 1 + 1, 1, none⟩ = some (.int .u64 0) ∧ w'.frozen? ⟨B + 1 + 1 + 1, 0, none⟩ = false ∧ w'.frozen? ⟨B + 1 + 1 + 1, 1, none⟩ = false ∧ w'.cell? ⟨Bp, 0, none⟩ = some (.int .i64 (hiW P)) ∧ w'.cell? ⟨Bp, 1, none⟩ = some (.int .u64 (loW P)))
theorem turned_go (t S F P N M C B c1 c2 s1 s2 : Int) (w : World)
    (k1 : Hid (∀ w : World, Calls Try.prog 91 #[.int .i64 t, .int .i64 t] w fun e w' => e = .returned (.agg #[.int .i64 (hiW S), .int .u64 (loW S)]) ∧ Below w.heap.size w w'))
    (k2 : Hid (∀ w : World, Calls Try.prog 91 #[.int .i64 4294967296, .int .i64 4294967296] w fun e w' => e = .returned (.agg #[.int .i64 (hiW F), .int .u64 (loW F)]) ∧ Below w.heap.size w w'))
    (k3 : Hid (∀ w : World, Calls Try.prog 85 #[.agg #[.int .i64 (hiW F), .int .u64 (loW F)], .agg #[.int .i64 (hiW S), .int .u64 (loW S)]] w fun e w' => e = .returned (.agg #[.int .i64 (hiW P), .int .u64 (loW P)]) ∧ Below w.heap.size w w'))
    (k4 : Hid (∀ w : World, Calls Try.prog 96 #[.agg #[.int .i64 (hiW S), .int .u64 (loW S)]] w fun e w' => e = .returned (.agg #[.int .i64 (hiW N), .int .u64 (loW N)]) ∧ Below w.heap.size w w'))
    (k5 : Hid (∀ w : World, Calls Try.prog 85 #[.agg #[.int .i64 (hiW F), .int .u64 (loW F)], .agg #[.int .i64 (hiW N), .int .u64 (loW N)]] w fun e w' => e = .returned (.agg #[.int .i64 (hiW M), .int .u64 (loW M)]) ∧ Below w.heap.size w w'))
    (k6 : Hid (∀ w : World, Calls Try.prog 78 #[.agg #[.int .i64 (hiW M), .int .u64 (loW M)], .int .i64 32] w fun e w' => e = .returned (.agg #[.int .i64 (hiW C), .int .u64 (loW C)]) ∧ Below w.heap.size w w'))
    (k7 : Hid (∀ w : World, Calls Try.prog 86 #[.int .i64 t] w fun e w' => e = .returned (.agg #[.int .i64 (hiW t), .int .u64 (loW t)]) ∧ Below w.heap.size w w'))
    (k8 : Hid (∀ w : World, Calls Try.prog 78 #[.agg #[.int .i64 (hiW t), .int .u64 (loW t)], .int .i64 65] w fun e w' => e = .returned (.agg #[.int .i64 (hiW B), .int .u64 (loW B)]) ∧ Below w.heap.size w w'))
    (q1 : Hid (∀ w : World, Calls Try.prog 100 #[.agg #[.int .i64 (hiW C), .int .u64 (loW C)], .agg #[.int .i64 (hiW P), .int .u64 (loW P)]] w fun e w' => e = .returned (.agg #[.int .i64 (hiW c1), .int .u64 (loW c1)]) ∧ Below w.heap.size w w'))
    (q2 : Hid (∀ w : World, Calls Try.prog 127 #[.agg #[.int .i64 (hiW C), .int .u64 (loW C)], .agg #[.int .i64 (hiW P), .int .u64 (loW P)]] w fun e w' => e = .returned (.agg #[.int .i64 (hiW c2), .int .u64 (loW c2)]) ∧ Below w.heap.size w w'))
    (q3 : Hid (∀ w : World, Calls Try.prog 100 #[.agg #[.int .i64 (hiW B), .int .u64 (loW B)], .agg #[.int .i64 (hiW P), .int .u64 (loW P)]] w fun e w' => e = .returned (.agg #[.int .i64 (hiW s1), .int .u64 (loW s1)]) ∧ Below w.heap.size w w'))
    (q4 : Hid (∀ w : World, Calls Try.prog 127 #[.agg #[.int .i64 (hiW B), .int .u64 (loW B)], .agg #[.int .i64 (hiW P), .int .u64 (loW P)]] w fun e w' => e = .returned (.agg #[.int .i64 (hiW s2), .int .u64 (loW s2)]) ∧ Below w.heap.size w w')) :
    Calls Try.prog 107 #[.int .i64 t] w fun e w' => e = .returned (.tuple #[.agg #[.int .i64 (hiW c1), .int .u64 (loW c1)], .agg #[.int .i64 (hiW c2), .int .u64 (loW c2)], .agg #[.int .i64 (hiW s1), .int .u64 (loW s1)], .agg #[.int .i64 (hiW s2), .int .u64 (loW s2)] ]) ∧ Below w.heap.size w w' := by
  go_enter Try.func107, Try.ntmps107
  go_wp2_with fail
  refine useF w (k1.out _) (by go_grown) ?_; rintro e w1 rfl hB1 hk1 hf1 hs1
  replace f00 : w1.frozen? ⟨w.heap.size, 0, none⟩ = false := hf1 _ _ (.int .i64 0) (by simp [go_sem]) (by simp [go_sem])
  replace f01 : w1.frozen? ⟨w.heap.size, 1, none⟩ = false := hf1 _ _ (.int .u64 0) (by simp [go_sem]) (by simp [go_sem])
  replace f10 : w1.frozen? ⟨w.heap.size + 1, 0, none⟩ = false := hf1 _ _ (.int .i64 0) (by simp [go_sem]) (by simp [go_sem])
  replace f11 : w1.frozen? ⟨w.heap.size + 1, 1, none⟩ = false := hf1 _ _ (.int .u64 0) (by simp [go_sem]) (by simp [go_sem])
  replace f20 : w1.frozen? ⟨w.heap.size + 1 + 1, 0, none⟩ = false := hf1 _ _ (.int .i64 0) (by simp [go_sem]) (by simp [go_sem])
  replace f21 : w1.frozen? ⟨w.heap.size + 1 + 1, 1, none⟩ = false := hf1 _ _ (.int .u64 0) (by simp [go_sem]) (by simp [go_sem])
  replace f30 : w1.frozen? ⟨w.heap.size + 1 + 1 + 1, 0, none⟩ = false := hf1 _ _ (.int .i64 0) (by simp [go_sem]) (by simp [go_sem])
  replace f31 : w1.frozen? ⟨w.heap.size + 1 + 1 + 1, 1, none⟩ = false := hf1 _ _ (.int .u64 0) (by simp [go_sem]) (by simp [go_sem])
  replace p00 : w1.cell? ⟨w.heap.size, 0, none⟩ = some (.int .i64 0) := hk1 _ _ _ (by simp [go_sem])
  replace p01 : w1.cell? ⟨w.heap.size, 1, none⟩ = some (.int .u64 0) := hk1 _ _ _ (by simp [go_sem])
  replace p10 : w1.cell? ⟨w.heap.size + 1, 0, none⟩ = some (.int .i64 0) := hk1 _ _ _ (by simp [go_sem])
  replace p11 : w1.cell? ⟨w.heap.size + 1, 1, none⟩ = some (.int .u64 0) := hk1 _ _ _ (by simp [go_sem])
  replace p20 : w1.cell? ⟨w.heap.size + 1 + 1, 0, none⟩ = some (.int .i64 0) := hk1 _ _ _ (by simp [go_sem])
  replace p21 : w1.cell? ⟨w.heap.size + 1 + 1, 1, none⟩ = some (.int .u64 0) := hk1 _ _ _ (by simp [go_sem])
  replace p30 : w1.cell? ⟨w.heap.size + 1 + 1 + 1, 0, none⟩ = some (.int .i64 0) := hk1 _ _ _ (by simp [go_sem])
  replace p31 : w1.cell? ⟨w.heap.size + 1 + 1 + 1, 1, none⟩ = some (.int .u64 0) := hk1 _ _ _ (by simp [go_sem])
  have bp00 : w.heap.size < w1.heap.size := World.block_lt_of_cell? w1 ⟨w.heap.size, 0, none⟩ p00
  have bp10 : w.heap.size + 1 < w1.heap.size := World.block_lt_of_cell? w1 ⟨w.heap.size + 1, 0, none⟩ p10
  have bp20 : w.heap.size + 1 + 1 < w1.heap.size := World.block_lt_of_cell? w1 ⟨w.heap.size + 1 + 1, 0, none⟩ p20
  have bp30 : w.heap.size + 1 + 1 + 1 < w1.heap.size := World.block_lt_of_cell? w1 ⟨w.heap.size + 1 + 1 + 1, 0, none⟩ p30
  clear hk1 hf1
  go_wp2_with fail
  refine useF w (k2.out _) (by go_grown) ?_; rintro e w2 rfl hB2 hk2 hf2 hs2
  replace f00 : w2.frozen? ⟨w.heap.size, 0, none⟩ = false := hf2 _ _ _ ((keepA _ p00)) ((keepAF _ (p00) f00))
  replace f01 : w2.frozen? ⟨w.heap.size, 1, none⟩ = false := hf2 _ _ _ ((keepA _ p01)) ((keepAF _ (p01) f01))
  replace f10 : w2.frozen? ⟨w.heap.size + 1, 0, none⟩ = false := hf2 _ _ _ ((keepA _ p10)) ((keepAF _ (p10) f10))
  replace f11 : w2.frozen? ⟨w.heap.size + 1, 1, none⟩ = false := hf2 _ _ _ ((keepA _ p11)) ((keepAF _ (p11) f11))
  replace f20 : w2.frozen? ⟨w.heap.size + 1 + 1, 0, none⟩ = false := hf2 _ _ _ ((keepA _ p20)) ((keepAF _ (p20) f20))
  replace f21 : w2.frozen? ⟨w.heap.size + 1 + 1, 1, none⟩ = false := hf2 _ _ _ ((keepA _ p21)) ((keepAF _ (p21) f21))
  replace f30 : w2.frozen? ⟨w.heap.size + 1 + 1 + 1, 0, none⟩ = false := hf2 _ _ _ ((keepA _ p30)) ((keepAF _ (p30) f30))
  replace f31 : w2.frozen? ⟨w.heap.size + 1 + 1 + 1, 1, none⟩ = false := hf2 _ _ _ ((keepA _ p31)) ((keepAF _ (p31) f31))
  replace p00 : w2.cell? ⟨w.heap.size, 0, none⟩ = some (.int .i64 0) := hk2 _ _ _ ((keepA _ p00))
  replace p01 : w2.cell? ⟨w.heap.size, 1, none⟩ = some (.int .u64 0) := hk2 _ _ _ ((keepA _ p01))
  replace p10 : w2.cell? ⟨w.heap.size + 1, 0, none⟩ = some (.int .i64 0) := hk2 _ _ _ ((keepA _ p10))
  replace p11 : w2.cell? ⟨w.heap.size + 1, 1, none⟩ = some (.int .u64 0) := hk2 _ _ _ ((keepA _ p11))
  replace p20 : w2.cell? ⟨w.heap.size + 1 + 1, 0, none⟩ = some (.int .i64 0) := hk2 _ _ _ ((keepA _ p20))
  replace p21 : w2.cell? ⟨w.heap.size + 1 + 1, 1, none⟩ = some (.int .u64 0) := hk2 _ _ _ ((keepA _ p21))
  replace p30 : w2.cell? ⟨w.heap.size + 1 + 1 + 1, 0, none⟩ = some (.int .i64 0) := hk2 _ _ _ ((keepA _ p30))
  replace p31 : w2.cell? ⟨w.heap.size + 1 + 1 + 1, 1, none⟩ = some (.int .u64 0) := hk2 _ _ _ ((keepA _ p31))
  replace l100 : w2.cell? ⟨w1.heap.size, 0, none⟩ = some (.int .i64 (hiW S)) := hk2 _ _ _ (by simp [go_sem])
  replace l101 : w2.cell? ⟨w1.heap.size, 1, none⟩ = some (.int .u64 (loW S)) := hk2 _ _ _ (by simp [go_sem])
  have bp00 : w.heap.size < w2.heap.size := World.block_lt_of_cell? w2 ⟨w.heap.size, 0, none⟩ p00
  have bp10 : w.heap.size + 1 < w2.heap.size := World.block_lt_of_cell? w2 ⟨w.heap.size + 1, 0, none⟩ p10
  have bp20 : w.heap.size + 1 + 1 < w2.heap.size := World.block_lt_of_cell? w2 ⟨w.heap.size + 1 + 1, 0, none⟩ p20
  have bp30 : w.heap.size + 1 + 1 + 1 < w2.heap.size := World.block_lt_of_cell? w2 ⟨w.heap.size + 1 + 1 + 1, 0, none⟩ p30
  have bl100 : w1.heap.size < w2.heap.size := World.block_lt_of_cell? w2 ⟨w1.heap.size, 0, none⟩ l100
  clear hk2 hf2
  go_wp2_with fail
  refine useF w (k3.out _) (by go_grown) ?_; rintro e w3 rfl hB3 hk3 hf3 hs3
  replace f00 : w3.frozen? ⟨w.heap.size, 0, none⟩ = false := hf3 _ _ _ ((keepA _ p00)) ((keepAF _ (p00) f00))
  replace f01 : w3.frozen? ⟨w.heap.size, 1, none⟩ = false := hf3 _ _ _ ((keepA _ p01)) ((keepAF _ (p01) f01))
  replace f10 : w3.frozen? ⟨w.heap.size + 1, 0, none⟩ = false := hf3 _ _ _ ((keepA _ p10)) ((keepAF _ (p10) f10))
  replace f11 : w3.frozen? ⟨w.heap.size + 1, 1, none⟩ = false := hf3 _ _ _ ((keepA _ p11)) ((keepAF _ (p11) f11))
  replace f20 : w3.frozen? ⟨w.heap.size + 1 + 1, 0, none⟩ = false := hf3 _ _ _ ((keepA _ p20)) ((keepAF _ (p20) f20))
  replace f21 : w3.frozen? ⟨w.heap.size + 1 + 1, 1, none⟩ = false := hf3 _ _ _ ((keepA _ p21)) ((keepAF _ (p21) f21))
  replace f30 : w3.frozen? ⟨w.heap.size + 1 + 1 + 1, 0, none⟩ = false := hf3 _ _ _ ((keepA _ p30)) ((keepAF _ (p30) f30))
  replace f31 : w3.frozen? ⟨w.heap.size + 1 + 1 + 1, 1, none⟩ = false := hf3 _ _ _ ((keepA _ p31)) ((keepAF _ (p31) f31))
  replace p00 : w3.cell? ⟨w.heap.size, 0, none⟩ = some (.int .i64 0) := hk3 _ _ _ ((keepA _ p00))
  replace p01 : w3.cell? ⟨w.heap.size, 1, none⟩ = some (.int .u64 0) := hk3 _ _ _ ((keepA _ p01))
  replace p10 : w3.cell? ⟨w.heap.size + 1, 0, none⟩ = some (.int .i64 0) := hk3 _ _ _ ((keepA _ p10))
  replace p11 : w3.cell? ⟨w.heap.size + 1, 1, none⟩ = some (.int .u64 0) := hk3 _ _ _ ((keepA _ p11))
  replace p20 : w3.cell? ⟨w.heap.size + 1 + 1, 0, none⟩ = some (.int .i64 0) := hk3 _ _ _ ((keepA _ p20))
  replace p21 : w3.cell? ⟨w.heap.size + 1 + 1, 1, none⟩ = some (.int .u64 0) := hk3 _ _ _ ((keepA _ p21))
  replace p30 : w3.cell? ⟨w.heap.size + 1 + 1 + 1, 0, none⟩ = some (.int .i64 0) := hk3 _ _ _ ((keepA _ p30))
  replace p31 : w3.cell? ⟨w.heap.size + 1 + 1 + 1, 1, none⟩ = some (.int .u64 0) := hk3 _ _ _ ((keepA _ p31))
  replace l100 : w3.cell? ⟨w1.heap.size, 0, none⟩ = some (.int .i64 (hiW S)) := hk3 _ _ _ ((keepA _ l100))
  replace l101 : w3.cell? ⟨w1.heap.size, 1, none⟩ = some (.int .u64 (loW S)) := hk3 _ _ _ ((keepA _ l101))
  replace l200 : w3.cell? ⟨w2.heap.size, 0, none⟩ = some (.int .i64 (hiW F)) := hk3 _ _ _ (by simp [go_sem])
  replace l201 : w3.cell? ⟨w2.heap.size, 1, none⟩ = some (.int .u64 (loW F)) := hk3 _ _ _ (by simp [go_sem])
  have bp00 : w.heap.size < w3.heap.size := World.block_lt_of_cell? w3 ⟨w.heap.size, 0, none⟩ p00
  have bp10 : w.heap.size + 1 < w3.heap.size := World.block_lt_of_cell? w3 ⟨w.heap.size + 1, 0, none⟩ p10
  have bp20 : w.heap.size + 1 + 1 < w3.heap.size := World.block_lt_of_cell? w3 ⟨w.heap.size + 1 + 1, 0, none⟩ p20
  have bp30 : w.heap.size + 1 + 1 + 1 < w3.heap.size := World.block_lt_of_cell? w3 ⟨w.heap.size + 1 + 1 + 1, 0, none⟩ p30
  have bl100 : w1.heap.size < w3.heap.size := World.block_lt_of_cell? w3 ⟨w1.heap.size, 0, none⟩ l100
  have bl200 : w2.heap.size < w3.heap.size := World.block_lt_of_cell? w3 ⟨w2.heap.size, 0, none⟩ l200
  clear hk3 hf3
  go_wp2_with fail
  obtain ⟨W4, hW4⟩ : ∃ W, W = (w3.alloc (.cells #[.int .i64 (hiW P), .int .u64 (loW P)] 78)) := ⟨_, rfl⟩
  rw [← hW4]
  have ra0 : W4.cell? ⟨w.heap.size, 0, none⟩ = some (.int .i64 0) := by rw [hW4]; exact keepA _ p00
  have raf0 : W4.frozen? ⟨w.heap.size, 0, none⟩ = false := by rw [hW4]; exact keepAF _ p00 f00
  have ra1 : W4.cell? ⟨w.heap.size, 1, none⟩ = some (.int .u64 0) := by rw [hW4]; exact keepA _ p01
  have raf1 : W4.frozen? ⟨w.heap.size, 1, none⟩ = false := by rw [hW4]; exact keepAF _ p01 f01
  have rb0 : W4.cell? ⟨w.heap.size + 1, 0, none⟩ = some (.int .i64 0) := by rw [hW4]; exact keepA _ p10
  have rbf0 : W4.frozen? ⟨w.heap.size + 1, 0, none⟩ = false := by rw [hW4]; exact keepAF _ p10 f10
  have rb1 : W4.cell? ⟨w.heap.size + 1, 1, none⟩ = some (.int .u64 0) := by rw [hW4]; exact keepA _ p11
  have rbf1 : W4.frozen? ⟨w.heap.size + 1, 1, none⟩ = false := by rw [hW4]; exact keepAF _ p11 f11
  have rc0 : W4.cell? ⟨w.heap.size + 1 + 1, 0, none⟩ = some (.int .i64 0) := by rw [hW4]; exact keepA _ p20
  have rcf0 : W4.frozen? ⟨w.heap.size + 1 + 1, 0, none⟩ = false := by rw [hW4]; exact keepAF _ p20 f20
  have rc1 : W4.cell? ⟨w.heap.size + 1 + 1, 1, none⟩ = some (.int .u64 0) := by rw [hW4]; exact keepA _ p21
  have rcf1 : W4.frozen? ⟨w.heap.size + 1 + 1, 1, none⟩ = false := by rw [hW4]; exact keepAF _ p21 f21
  have rd0 : W4.cell? ⟨w.heap.size + 1 + 1 + 1, 0, none⟩ = some (.int .i64 0) := by rw [hW4]; exact keepA _ p30
  have rdf0 : W4.frozen? ⟨w.heap.size + 1 + 1 + 1, 0, none⟩ = false := by rw [hW4]; exact keepAF _ p30 f30
  have rd1 : W4.cell? ⟨w.heap.size + 1 + 1 + 1, 1, none⟩ = some (.int .u64 0) := by rw [hW4]; exact keepA _ p31
  have rdf1 : W4.frozen? ⟨w.heap.size + 1 + 1 + 1, 1, none⟩ = false := by rw [hW4]; exact keepAF _ p31 f31
  have xs0 : W4.cell? ⟨w1.heap.size, 0, none⟩ = some (.int .i64 (hiW S)) := by rw [hW4]; exact keepA _ l100
  have xs1 : W4.cell? ⟨w1.heap.size, 1, none⟩ = some (.int .u64 (loW S)) := by rw [hW4]; exact keepA _ l101
  have xf0 : W4.cell? ⟨w2.heap.size, 0, none⟩ = some (.int .i64 (hiW F)) := by rw [hW4]; exact keepA _ l200
  have xf1 : W4.cell? ⟨w2.heap.size, 1, none⟩ = some (.int .u64 (loW F)) := by rw [hW4]; exact keepA _ l201
  have xp0 : W4.cell? ⟨w3.heap.size, 0, none⟩ = some (.int .i64 (hiW P)) := by rw [hW4]; simp [go_sem]
  have xp1 : W4.cell? ⟨w3.heap.size, 1, none⟩ = some (.int .u64 (loW P)) := by rw [hW4]; simp [go_sem]
  have hB4 : Below w.heap.size w W4 := by rw [hW4]; go_grown
  clear p00 p01 p10 p11 p20 p21 p30 p31 f00 f01 f10 f11 f20 f21 f30 f31 l100 l101 l200 l201 hW4
  have hBp : w.heap.size + 1 + 1 + 1 < w3.heap.size := bp30
  generalize w3.heap.size = Bp at *
  go_cut [9] (fun s wx => ∃ Ba : Nat, s = .pointer (some ⟨Ba, 0, none⟩) ∧ (w.heap.size + 1 + 1 + 1 < Bp ∧ Bp < Ba) ∧ T7 w.heap.size Bp P wx ∧ wx.cell? ⟨Ba, 0, none⟩ = some (.int .i64 (hiW C)) ∧ wx.cell? ⟨Ba, 1, none⟩ = some (.int .u64 (loW C)) ∧ Below w.heap.size w wx)
  case first => as_aux_lemma =>
    refine wp_region_held_drew (S := (fun w' => w'.cell? ⟨w.heap.size, 0, none⟩ = some (.int .i64 0) ∧ w'.cell? ⟨w.heap.size, 1, none⟩ = some (.int .u64 0) ∧ w'.frozen? ⟨w.heap.size, 0, none⟩ = false ∧ w'.frozen? ⟨w.heap.size, 1, none⟩ = false ∧ w'.cell? ⟨w.heap.size + 1, 0, none⟩ = some (.int .i64 0) ∧ w'.cell? ⟨w.heap.size + 1, 1, none⟩ = some (.int .u64 0) ∧ w'.frozen? ⟨w.heap.size + 1, 0, none⟩ = false ∧ w'.frozen? ⟨w.heap.size + 1, 1, none⟩ = false ∧ w'.cell? ⟨w.heap.size + 1 + 1, 0, none⟩ = some (.int .i64 0) ∧ w'.cell? ⟨w.heap.size + 1 + 1, 1, none⟩ = some (.int .u64 0) ∧ w'.frozen? ⟨w.heap.size + 1 + 1, 0, none⟩ = false ∧ w'.frozen? ⟨w.heap.size + 1 + 1, 1, none⟩ = false ∧ w'.cell? ⟨w.heap.size + 1 + 1 + 1, 0, none⟩ = some (.int .i64 0) ∧ w'.cell? ⟨w.heap.size + 1 + 1 + 1, 1, none⟩ = some (.int .u64 0) ∧ w'.frozen? ⟨w.heap.size + 1 + 1 + 1, 0, none⟩ = false ∧ w'.frozen? ⟨w.heap.size + 1 + 1 + 1, 1, none⟩ = false ∧ w'.cell? ⟨w1.heap.size, 0, none⟩ = some (.int .i64 (hiW S)) ∧ w'.cell? ⟨w1.heap.size, 1, none⟩ = some (.int .u64 (loW S)) ∧ w'.cell? ⟨w2.heap.size, 0, none⟩ = some (.int .i64 (hiW F)) ∧ w'.cell? ⟨w2.heap.size, 1, none⟩ = some (.int .u64 (loW F)) ∧ w'.cell? ⟨Bp, 0, none⟩ = some (.int .i64 (hiW P)) ∧ w'.cell? ⟨Bp, 1, none⟩ = some (.int .u64 (loW P)))) (by kernel_rfl) (by (try dsimp only); simp only [World.cell?_drew, World.frozen?_drew]; exact ⟨ra0, ra1, raf0, raf1, rb0, rb1, rbf0, rbf1, rc0, rc1, rcf0, rcf1, rd0, rd1, rdf0, rdf1, xs0, xs1, xf0, xf1, xp0, xp1⟩) (fun hHeld => ?_)
    have hBq0 : Below w.heap.size w W4.drew := by go_grown
    (try dsimp only at hHeld)
    clear ra0 ra1 raf0 raf1 rb0 rb1 rbf0 rbf1 rc0 rc1 rcf0 rcf1 rd0 rd1 rdf0 rdf1 xs0 xs1 xf0 xf1 xp0 xp1
    generalize W4.drew = wq0 at *
    have hzq0 : w.heap.size ≤ wq0.heap.size := hBq0.size
    (refine wpAnyH_take (i := 0) (oi := ⟨some 18, _, _, _, _, none⟩) (v := ?_) rfl (by kernel_rfl) (by kernel_rfl) (by kernel_rfl) (fun _ _ _ h => h) (Or.inl ⟨by rfl, ?_⟩) hHeld ?_; rotate_left; (· (intro w9 hSw; (try dsimp only at hSw); go_simp; (try with_reducible rfl))))
    (try simp only [Act.put, List.setIfInBounds_toArray, List.set_cons_zero, List.set_cons_succ])
    (refine wpAnyH_take (i := 1) (oi := ⟨some 19, _, _, _, _, none⟩) (v := ?_) rfl (by kernel_rfl) (by kernel_rfl) (by kernel_rfl) (fun _ _ _ h => h) (Or.inl ⟨by rfl, ?_⟩) hHeld ?_; rotate_left; (· (intro w9 hSw; (try dsimp only at hSw); go_simp; (try with_reducible rfl))))
    (try simp only [Act.put, List.setIfInBounds_toArray, List.set_cons_zero, List.set_cons_succ])
    refine wpAnyH_ready (rs := [2, 5]) (by kernel_rfl) (by simp) ?_
    refine AllReadyH.cons (o := ⟨some 20, _, _, _, _, none⟩) rfl (fun K hK => ?_) (AllReadyH.cons (o := ⟨some 9, _, _, _, _, none⟩) rfl (fun K hK => ?_) (AllReadyH.nil))
    ·
     go_simp
     (go_at_call 96; refine useF w (k4.out _) (by go_grown) ?_; rintro e wq1 rfl hBq1 hkq1 hfq1 hsq1)
     have hOld := hHeld; clear hHeld; refine hK.out _ _ ?_ (fun hHeld => ?_)
     · exact ⟨hkq1 _ _ _ (hOld.1), hkq1 _ _ _ (hOld.2.1), hfq1 _ _ _ (hOld.1) (hOld.2.2.1), hfq1 _ _ _ (hOld.2.1) (hOld.2.2.2.1), hkq1 _ _ _ (hOld.2.2.2.2.1), hkq1 _ _ _ (hOld.2.2.2.2.2.1), hfq1 _ _ _ (hOld.2.2.2.2.1) (hOld.2.2.2.2.2.2.1), hfq1 _ _ _ (hOld.2.2.2.2.2.1) (hOld.2.2.2.2.2.2.2.1), hkq1 _ _ _ (hOld.2.2.2.2.2.2.2.2.1), hkq1 _ _ _ (hOld.2.2.2.2.2.2.2.2.2.1), hfq1 _ _ _ (hOld.2.2.2.2.2.2.2.2.1) (hOld.2.2.2.2.2.2.2.2.2.2.1), hfq1 _ _ _ (hOld.2.2.2.2.2.2.2.2.2.1) (hOld.2.2.2.2.2.2.2.2.2.2.2.1), hkq1 _ _ _ (hOld.2.2.2.2.2.2.2.2.2.2.2.2.1), hkq1 _ _ _ (hOld.2.2.2.2.2.2.2.2.2.2.2.2.2.1), hfq1 _ _ _ (hOld.2.2.2.2.2.2.2.2.2.2.2.2.1) (hOld.2.2.2.2.2.2.2.2.2.2.2.2.2.2.1), hfq1 _ _ _ (hOld.2.2.2.2.2.2.2.2.2.2.2.2.2.1) (hOld.2.2.2.2.2.2.2.2.2.2.2.2.2.2.2.1), hkq1 _ _ _ (hOld.2.2.2.2.2.2.2.2.2.2.2.2.2.2.2.2.1), hkq1 _ _ _ (hOld.2.2.2.2.2.2.2.2.2.2.2.2.2.2.2.2.2.1), hkq1 _ _ _ (hOld.2.2.2.2.2.2.2.2.2.2.2.2.2.2.2.2.2.2.1), hkq1 _ _ _ (hOld.2.2.2.2.2.2.2.2.2.2.2.2.2.2.2.2.2.2.2.1), hkq1 _ _ _ (hOld.2.2.2.2.2.2.2.2.2.2.2.2.2.2.2.2.2.2.2.2.1), hkq1 _ _ _ (hOld.2.2.2.2.2.2.2.2.2.2.2.2.2.2.2.2.2.2.2.2.2)⟩
     clear hK K hOld
     clear hkq1 hfq1 hsq1
     have hzq1 : w.heap.size ≤ wq1.heap.size := hBq1.size
     (try simp only [Act.put, List.setIfInBounds_toArray, List.set_cons_zero, List.set_cons_succ])
     refine wpAnyH_ready (rs := [3, 5]) (by kernel_rfl) (by simp) ?_
     refine AllReadyH.cons (o := ⟨some 21, _, _, _, _, none⟩) rfl (fun K hK => ?_) (AllReadyH.cons (o := ⟨some 9, _, _, _, _, none⟩) rfl (fun K hK => ?_) (AllReadyH.nil))
     ·
      go_simp
      (go_at_call 85; refine useF w (k5.out _) (by go_grown) ?_; rintro e wq2 rfl hBq2 hkq2 hfq2 hsq2)
      have hOld := hHeld; clear hHeld; refine hK.out _ _ ?_ (fun hHeld => ?_)
      · exact ⟨hkq2 _ _ _ (hOld.1), hkq2 _ _ _ (hOld.2.1), hfq2 _ _ _ (hOld.1) (hOld.2.2.1), hfq2 _ _ _ (hOld.2.1) (hOld.2.2.2.1), hkq2 _ _ _ (hOld.2.2.2.2.1), hkq2 _ _ _ (hOld.2.2.2.2.2.1), hfq2 _ _ _ (hOld.2.2.2.2.1) (hOld.2.2.2.2.2.2.1), hfq2 _ _ _ (hOld.2.2.2.2.2.1) (hOld.2.2.2.2.2.2.2.1), hkq2 _ _ _ (hOld.2.2.2.2.2.2.2.2.1), hkq2 _ _ _ (hOld.2.2.2.2.2.2.2.2.2.1), hfq2 _ _ _ (hOld.2.2.2.2.2.2.2.2.1) (hOld.2.2.2.2.2.2.2.2.2.2.1), hfq2 _ _ _ (hOld.2.2.2.2.2.2.2.2.2.1) (hOld.2.2.2.2.2.2.2.2.2.2.2.1), hkq2 _ _ _ (hOld.2.2.2.2.2.2.2.2.2.2.2.2.1), hkq2 _ _ _ (hOld.2.2.2.2.2.2.2.2.2.2.2.2.2.1), hfq2 _ _ _ (hOld.2.2.2.2.2.2.2.2.2.2.2.2.1) (hOld.2.2.2.2.2.2.2.2.2.2.2.2.2.2.1), hfq2 _ _ _ (hOld.2.2.2.2.2.2.2.2.2.2.2.2.2.1) (hOld.2.2.2.2.2.2.2.2.2.2.2.2.2.2.2.1), hkq2 _ _ _ (hOld.2.2.2.2.2.2.2.2.2.2.2.2.2.2.2.2.1), hkq2 _ _ _ (hOld.2.2.2.2.2.2.2.2.2.2.2.2.2.2.2.2.2.1), hkq2 _ _ _ (hOld.2.2.2.2.2.2.2.2.2.2.2.2.2.2.2.2.2.2.1), hkq2 _ _ _ (hOld.2.2.2.2.2.2.2.2.2.2.2.2.2.2.2.2.2.2.2.1), hkq2 _ _ _ (hOld.2.2.2.2.2.2.2.2.2.2.2.2.2.2.2.2.2.2.2.2.1), hkq2 _ _ _ (hOld.2.2.2.2.2.2.2.2.2.2.2.2.2.2.2.2.2.2.2.2.2)⟩
      clear hK K hOld
      clear hkq2 hfq2 hsq2
      have hzq2 : w.heap.size ≤ wq2.heap.size := hBq2.size
      (try simp only [Act.put, List.setIfInBounds_toArray, List.set_cons_zero, List.set_cons_succ])
      refine wpAnyH_ready (rs := [4, 5]) (by kernel_rfl) (by simp) ?_
      refine AllReadyH.cons (o := ⟨some 22, _, _, _, _, none⟩) rfl (fun K hK => ?_) (AllReadyH.cons (o := ⟨some 9, _, _, _, _, none⟩) rfl (fun K hK => ?_) (AllReadyH.nil))
      ·
       go_simp
       (go_at_call 78; refine useF w (k6.out _) (by go_grown) ?_; rintro e wq3 rfl hBq3 hkq3 hfq3 hsq3)
       have hOld := hHeld; clear hHeld; refine hK.out _ _ ?_ (fun hHeld => ?_)
       · exact ⟨hkq3 _ _ _ (hOld.1), hkq3 _ _ _ (hOld.2.1), hfq3 _ _ _ (hOld.1) (hOld.2.2.1), hfq3 _ _ _ (hOld.2.1) (hOld.2.2.2.1), hkq3 _ _ _ (hOld.2.2.2.2.1), hkq3 _ _ _ (hOld.2.2.2.2.2.1), hfq3 _ _ _ (hOld.2.2.2.2.1) (hOld.2.2.2.2.2.2.1), hfq3 _ _ _ (hOld.2.2.2.2.2.1) (hOld.2.2.2.2.2.2.2.1), hkq3 _ _ _ (hOld.2.2.2.2.2.2.2.2.1), hkq3 _ _ _ (hOld.2.2.2.2.2.2.2.2.2.1), hfq3 _ _ _ (hOld.2.2.2.2.2.2.2.2.1) (hOld.2.2.2.2.2.2.2.2.2.2.1), hfq3 _ _ _ (hOld.2.2.2.2.2.2.2.2.2.1) (hOld.2.2.2.2.2.2.2.2.2.2.2.1), hkq3 _ _ _ (hOld.2.2.2.2.2.2.2.2.2.2.2.2.1), hkq3 _ _ _ (hOld.2.2.2.2.2.2.2.2.2.2.2.2.2.1), hfq3 _ _ _ (hOld.2.2.2.2.2.2.2.2.2.2.2.2.1) (hOld.2.2.2.2.2.2.2.2.2.2.2.2.2.2.1), hfq3 _ _ _ (hOld.2.2.2.2.2.2.2.2.2.2.2.2.2.1) (hOld.2.2.2.2.2.2.2.2.2.2.2.2.2.2.2.1), hkq3 _ _ _ (hOld.2.2.2.2.2.2.2.2.2.2.2.2.2.2.2.2.1), hkq3 _ _ _ (hOld.2.2.2.2.2.2.2.2.2.2.2.2.2.2.2.2.2.1), hkq3 _ _ _ (hOld.2.2.2.2.2.2.2.2.2.2.2.2.2.2.2.2.2.2.1), hkq3 _ _ _ (hOld.2.2.2.2.2.2.2.2.2.2.2.2.2.2.2.2.2.2.2.1), hkq3 _ _ _ (hOld.2.2.2.2.2.2.2.2.2.2.2.2.2.2.2.2.2.2.2.2.1), hkq3 _ _ _ (hOld.2.2.2.2.2.2.2.2.2.2.2.2.2.2.2.2.2.2.2.2.2)⟩
       clear hK K hOld
       clear hkq3 hfq3 hsq3
       have hzq3 : w.heap.size ≤ wq3.heap.size := hBq3.size
       (try simp only [Act.put, List.setIfInBounds_toArray, List.set_cons_zero, List.set_cons_succ])
       refine wpAnyH_ready (rs := [5]) (by kernel_rfl) (by simp) ?_
       refine AllReadyH.cons (o := ⟨some 9, _, _, _, _, none⟩) rfl (fun K hK => ?_) (AllReadyH.nil)
       (try dsimp only at hHeld)
       have hBq4 : Below w.heap.size w (wq3.alloc (Obj.cells #[.int .i64 0, .int .u64 0] 78)) := by go_grown
       have nn50 : (wq3.alloc (Obj.cells #[.int .i64 0, .int .u64 0] 78)).cell? ⟨wq3.heap.size, 0, none⟩ = some (.int .i64 0) := by simp [go_sem]
       have nn5f0 : (wq3.alloc (Obj.cells #[.int .i64 0, .int .u64 0] 78)).frozen? ⟨wq3.heap.size, 0, none⟩ = false := by simp [go_sem]
       have nn51 : (wq3.alloc (Obj.cells #[.int .i64 0, .int .u64 0] 78)).cell? ⟨wq3.heap.size, 1, none⟩ = some (.int .u64 0) := by simp [go_sem]
       have nn5f1 : (wq3.alloc (Obj.cells #[.int .i64 0, .int .u64 0] 78)).frozen? ⟨wq3.heap.size, 1, none⟩ = false := by simp [go_sem]
       have nn5l0 : w.heap.size < wq3.heap.size := World.block_lt_of_cell? _ ⟨w.heap.size, 0, none⟩ (hHeld.1)
       have nn5l1 : w.heap.size + 1 < wq3.heap.size := World.block_lt_of_cell? _ ⟨w.heap.size + 1, 0, none⟩ (hHeld.2.2.2.2.1)
       have nn5l2 : w.heap.size + 1 + 1 < wq3.heap.size := World.block_lt_of_cell? _ ⟨w.heap.size + 1 + 1, 0, none⟩ (hHeld.2.2.2.2.2.2.2.2.1)
       have nn5l3 : w.heap.size + 1 + 1 + 1 < wq3.heap.size := World.block_lt_of_cell? _ ⟨w.heap.size + 1 + 1 + 1, 0, none⟩ (hHeld.2.2.2.2.2.2.2.2.2.2.2.2.1)
       have nn5l4 : w1.heap.size < wq3.heap.size := World.block_lt_of_cell? _ ⟨w1.heap.size, 0, none⟩ (hHeld.2.2.2.2.2.2.2.2.2.2.2.2.2.2.2.2.1)
       have nn5l5 : w2.heap.size < wq3.heap.size := World.block_lt_of_cell? _ ⟨w2.heap.size, 0, none⟩ (hHeld.2.2.2.2.2.2.2.2.2.2.2.2.2.2.2.2.2.2.1)
       have nn5l6 : Bp < wq3.heap.size := World.block_lt_of_cell? _ ⟨Bp, 0, none⟩ (hHeld.2.2.2.2.2.2.2.2.2.2.2.2.2.2.2.2.2.2.2.2.1)
       have hOld := hHeld; clear hHeld; go_simp; refine hK.out _ _ ?_ (fun hHeld => ?_)
       · exact ⟨keepA _ (hOld.1), keepA _ (hOld.2.1), keepAF _ (hOld.1) (hOld.2.2.1), keepAF _ (hOld.2.1) (hOld.2.2.2.1), keepA _ (hOld.2.2.2.2.1), keepA _ (hOld.2.2.2.2.2.1), keepAF _ (hOld.2.2.2.2.1) (hOld.2.2.2.2.2.2.1), keepAF _ (hOld.2.2.2.2.2.1) (hOld.2.2.2.2.2.2.2.1), keepA _ (hOld.2.2.2.2.2.2.2.2.1), keepA _ (hOld.2.2.2.2.2.2.2.2.2.1), keepAF _ (hOld.2.2.2.2.2.2.2.2.1) (hOld.2.2.2.2.2.2.2.2.2.2.1), keepAF _ (hOld.2.2.2.2.2.2.2.2.2.1) (hOld.2.2.2.2.2.2.2.2.2.2.2.1), keepA _ (hOld.2.2.2.2.2.2.2.2.2.2.2.2.1), keepA _ (hOld.2.2.2.2.2.2.2.2.2.2.2.2.2.1), keepAF _ (hOld.2.2.2.2.2.2.2.2.2.2.2.2.1) (hOld.2.2.2.2.2.2.2.2.2.2.2.2.2.2.1), keepAF _ (hOld.2.2.2.2.2.2.2.2.2.2.2.2.2.1) (hOld.2.2.2.2.2.2.2.2.2.2.2.2.2.2.2.1), keepA _ (hOld.2.2.2.2.2.2.2.2.2.2.2.2.2.2.2.2.1), keepA _ (hOld.2.2.2.2.2.2.2.2.2.2.2.2.2.2.2.2.2.1), keepA _ (hOld.2.2.2.2.2.2.2.2.2.2.2.2.2.2.2.2.2.2.1), keepA _ (hOld.2.2.2.2.2.2.2.2.2.2.2.2.2.2.2.2.2.2.2.1), keepA _ (hOld.2.2.2.2.2.2.2.2.2.2.2.2.2.2.2.2.2.2.2.2.1), keepA _ (hOld.2.2.2.2.2.2.2.2.2.2.2.2.2.2.2.2.2.2.2.2.2)⟩
       clear hK K hOld
       (try dsimp only at hHeld)
       generalize (wq3.alloc (Obj.cells #[.int .i64 0, .int .u64 0] 78)) = wq4 at *
       have hzq4 : w.heap.size ≤ wq4.heap.size := hBq4.size
       (try simp only [Act.put, List.setIfInBounds_toArray, List.set_cons_zero, List.set_cons_succ])
       refine wpAnyH_ready (rs := [6]) (by kernel_rfl) (by simp) ?_
       refine AllReadyH.cons (o := ⟨none, _, _, _, _, none⟩) rfl (fun K hK => ?_) (AllReadyH.nil)
       (try dsimp only at hHeld)
       have hBq5 : Below w.heap.size w ((wq4.setCell ⟨wq3.heap.size, 0, none⟩ (.int .i64 (hiW C))).setCell ⟨wq3.heap.size, 1, none⟩ (.int .u64 (loW C))) := by go_grown
       have hOld := hHeld; clear hHeld; go_simp; refine hK.out _ _ ?_ (fun hHeld => ?_)
       · exact ⟨two_other (hOld.1) (Nat.ne_of_gt nn5l0), two_other (hOld.2.1) (Nat.ne_of_gt nn5l0), two_fz (hOld.2.2.1), two_fz (hOld.2.2.2.1), two_other (hOld.2.2.2.2.1) (Nat.ne_of_gt nn5l1), two_other (hOld.2.2.2.2.2.1) (Nat.ne_of_gt nn5l1), two_fz (hOld.2.2.2.2.2.2.1), two_fz (hOld.2.2.2.2.2.2.2.1), two_other (hOld.2.2.2.2.2.2.2.2.1) (Nat.ne_of_gt nn5l2), two_other (hOld.2.2.2.2.2.2.2.2.2.1) (Nat.ne_of_gt nn5l2), two_fz (hOld.2.2.2.2.2.2.2.2.2.2.1), two_fz (hOld.2.2.2.2.2.2.2.2.2.2.2.1), two_other (hOld.2.2.2.2.2.2.2.2.2.2.2.2.1) (Nat.ne_of_gt nn5l3), two_other (hOld.2.2.2.2.2.2.2.2.2.2.2.2.2.1) (Nat.ne_of_gt nn5l3), two_fz (hOld.2.2.2.2.2.2.2.2.2.2.2.2.2.2.1), two_fz (hOld.2.2.2.2.2.2.2.2.2.2.2.2.2.2.2.1), two_other (hOld.2.2.2.2.2.2.2.2.2.2.2.2.2.2.2.2.1) (Nat.ne_of_gt nn5l4), two_other (hOld.2.2.2.2.2.2.2.2.2.2.2.2.2.2.2.2.2.1) (Nat.ne_of_gt nn5l4), two_other (hOld.2.2.2.2.2.2.2.2.2.2.2.2.2.2.2.2.2.2.1) (Nat.ne_of_gt nn5l5), two_other (hOld.2.2.2.2.2.2.2.2.2.2.2.2.2.2.2.2.2.2.2.1) (Nat.ne_of_gt nn5l5), two_other (hOld.2.2.2.2.2.2.2.2.2.2.2.2.2.2.2.2.2.2.2.2.1) (Nat.ne_of_gt nn5l6), two_other (hOld.2.2.2.2.2.2.2.2.2.2.2.2.2.2.2.2.2.2.2.2.2) (Nat.ne_of_gt nn5l6)⟩
       clear hK K hOld
       (try dsimp only at hHeld)
       replace nn5f0 := two_fz (b := wq3.heap.size) (x := .int .i64 (hiW C)) (y := .int .u64 (loW C)) nn5f0
       replace nn50 := two_0 (x := .int .i64 (hiW C)) (y := .int .u64 (loW C)) nn50
       replace nn5f1 := two_fz (b := wq3.heap.size) (x := .int .i64 (hiW C)) (y := .int .u64 (loW C)) nn5f1
       replace nn51 := two_1 (x := .int .i64 (hiW C)) (y := .int .u64 (loW C)) nn51
       generalize ((wq4.setCell ⟨wq3.heap.size, 0, none⟩ (.int .i64 (hiW C))).setCell ⟨wq3.heap.size, 1, none⟩ (.int .u64 (loW C))) = wq5 at *
       have hzq5 : w.heap.size ≤ wq5.heap.size := hBq5.size
       (try simp only [Act.put, List.setIfInBounds_toArray, List.set_cons_zero, List.set_cons_succ])
       refine wpAnyH_done (by kernel_rfl) ?_ _
       go_wp2_with fail
       go_meet
       obtain ⟨ra0, ra1, raf0, raf1, rb0, rb1, rbf0, rbf1, rc0, rc1, rcf0, rcf1, rd0, rd1, rdf0, rdf1, xs0, xs1, xf0, xf1, xp0, xp1⟩ := hHeld
       exact ⟨_, rfl, ⟨hBp, by omega⟩, ⟨ra0, ra1, raf0, raf1, rb0, rb1, rbf0, rbf1, rc0, rc1, rcf0, rcf1, rd0, rd1, rdf0, rdf1, xp0, xp1⟩, nn50, nn51, by assumption⟩
      ·
       (try dsimp only at hHeld)
       have hBq3 : Below w.heap.size w (wq2.alloc (Obj.cells #[.int .i64 0, .int .u64 0] 78)) := by go_grown
       have nn50 : (wq2.alloc (Obj.cells #[.int .i64 0, .int .u64 0] 78)).cell? ⟨wq2.heap.size, 0, none⟩ = some (.int .i64 0) := by simp [go_sem]
       have nn5f0 : (wq2.alloc (Obj.cells #[.int .i64 0, .int .u64 0] 78)).frozen? ⟨wq2.heap.size, 0, none⟩ = false := by simp [go_sem]
       have nn51 : (wq2.alloc (Obj.cells #[.int .i64 0, .int .u64 0] 78)).cell? ⟨wq2.heap.size, 1, none⟩ = some (.int .u64 0) := by simp [go_sem]
       have nn5f1 : (wq2.alloc (Obj.cells #[.int .i64 0, .int .u64 0] 78)).frozen? ⟨wq2.heap.size, 1, none⟩ = false := by simp [go_sem]
       have nn5l0 : w.heap.size < wq2.heap.size := World.block_lt_of_cell? _ ⟨w.heap.size, 0, none⟩ (hHeld.1)
       have nn5l1 : w.heap.size + 1 < wq2.heap.size := World.block_lt_of_cell? _ ⟨w.heap.size + 1, 0, none⟩ (hHeld.2.2.2.2.1)
       have nn5l2 : w.heap.size + 1 + 1 < wq2.heap.size := World.block_lt_of_cell? _ ⟨w.heap.size + 1 + 1, 0, none⟩ (hHeld.2.2.2.2.2.2.2.2.1)
       have nn5l3 : w.heap.size + 1 + 1 + 1 < wq2.heap.size := World.block_lt_of_cell? _ ⟨w.heap.size + 1 + 1 + 1, 0, none⟩ (hHeld.2.2.2.2.2.2.2.2.2.2.2.2.1)
       have nn5l4 : w1.heap.size < wq2.heap.size := World.block_lt_of_cell? _ ⟨w1.heap.size, 0, none⟩ (hHeld.2.2.2.2.2.2.2.2.2.2.2.2.2.2.2.2.1)
       have nn5l5 : w2.heap.size < wq2.heap.size := World.block_lt_of_cell? _ ⟨w2.heap.size, 0, none⟩ (hHeld.2.2.2.2.2.2.2.2.2.2.2.2.2.2.2.2.2.2.1)
       have nn5l6 : Bp < wq2.heap.size := World.block_lt_of_cell? _ ⟨Bp, 0, none⟩ (hHeld.2.2.2.2.2.2.2.2.2.2.2.2.2.2.2.2.2.2.2.2.1)
       have hOld := hHeld; clear hHeld; go_simp; refine hK.out _ _ ?_ (fun hHeld => ?_)
       · exact ⟨keepA _ (hOld.1), keepA _ (hOld.2.1), keepAF _ (hOld.1) (hOld.2.2.1), keepAF _ (hOld.2.1) (hOld.2.2.2.1), keepA _ (hOld.2.2.2.2.1), keepA _ (hOld.2.2.2.2.2.1), keepAF _ (hOld.2.2.2.2.1) (hOld.2.2.2.2.2.2.1), keepAF _ (hOld.2.2.2.2.2.1) (hOld.2.2.2.2.2.2.2.1), keepA _ (hOld.2.2.2.2.2.2.2.2.1), keepA _ (hOld.2.2.2.2.2.2.2.2.2.1), keepAF _ (hOld.2.2.2.2.2.2.2.2.1) (hOld.2.2.2.2.2.2.2.2.2.2.1), keepAF _ (hOld.2.2.2.2.2.2.2.2.2.1) (hOld.2.2.2.2.2.2.2.2.2.2.2.1), keepA _ (hOld.2.2.2.2.2.2.2.2.2.2.2.2.1), keepA _ (hOld.2.2.2.2.2.2.2.2.2.2.2.2.2.1), keepAF _ (hOld.2.2.2.2.2.2.2.2.2.2.2.2.1) (hOld.2.2.2.2.2.2.2.2.2.2.2.2.2.2.1), keepAF _ (hOld.2.2.2.2.2.2.2.2.2.2.2.2.2.1) (hOld.2.2.2.2.2.2.2.2.2.2.2.2.2.2.2.1), keepA _ (hOld.2.2.2.2.2.2.2.2.2.2.2.2.2.2.2.2.1), keepA _ (hOld.2.2.2.2.2.2.2.2.2.2.2.2.2.2.2.2.2.1), keepA _ (hOld.2.2.2.2.2.2.2.2.2.2.2.2.2.2.2.2.2.2.1), keepA _ (hOld.2.2.2.2.2.2.2.2.2.2.2.2.2.2.2.2.2.2.2.1), keepA _ (hOld.2.2.2.2.2.2.2.2.2.2.2.2.2.2.2.2.2.2.2.2.1), keepA _ (hOld.2.2.2.2.2.2.2.2.2.2.2.2.2.2.2.2.2.2.2.2.2)⟩
       clear hK K hOld
       (try dsimp only at hHeld)
       generalize (wq2.alloc (Obj.cells #[.int .i64 0, .int .u64 0] 78)) = wq3 at *
       have hzq3 : w.heap.size ≤ wq3.heap.size := hBq3.size
       (try simp only [Act.put, List.setIfInBounds_toArray, List.set_cons_zero, List.set_cons_succ])
       refine wpAnyH_ready (rs := [4]) (by kernel_rfl) (by simp) ?_
       refine AllReadyH.cons (o := ⟨some 22, _, _, _, _, none⟩) rfl (fun K hK => ?_) (AllReadyH.nil)
       go_simp
       (go_at_call 78; refine useF w (k6.out _) (by go_grown) ?_; rintro e wq4 rfl hBq4 hkq4 hfq4 hsq4)
       have hOld := hHeld; clear hHeld; refine hK.out _ _ ?_ (fun hHeld => ?_)
       · exact ⟨hkq4 _ _ _ (hOld.1), hkq4 _ _ _ (hOld.2.1), hfq4 _ _ _ (hOld.1) (hOld.2.2.1), hfq4 _ _ _ (hOld.2.1) (hOld.2.2.2.1), hkq4 _ _ _ (hOld.2.2.2.2.1), hkq4 _ _ _ (hOld.2.2.2.2.2.1), hfq4 _ _ _ (hOld.2.2.2.2.1) (hOld.2.2.2.2.2.2.1), hfq4 _ _ _ (hOld.2.2.2.2.2.1) (hOld.2.2.2.2.2.2.2.1), hkq4 _ _ _ (hOld.2.2.2.2.2.2.2.2.1), hkq4 _ _ _ (hOld.2.2.2.2.2.2.2.2.2.1), hfq4 _ _ _ (hOld.2.2.2.2.2.2.2.2.1) (hOld.2.2.2.2.2.2.2.2.2.2.1), hfq4 _ _ _ (hOld.2.2.2.2.2.2.2.2.2.1) (hOld.2.2.2.2.2.2.2.2.2.2.2.1), hkq4 _ _ _ (hOld.2.2.2.2.2.2.2.2.2.2.2.2.1), hkq4 _ _ _ (hOld.2.2.2.2.2.2.2.2.2.2.2.2.2.1), hfq4 _ _ _ (hOld.2.2.2.2.2.2.2.2.2.2.2.2.1) (hOld.2.2.2.2.2.2.2.2.2.2.2.2.2.2.1), hfq4 _ _ _ (hOld.2.2.2.2.2.2.2.2.2.2.2.2.2.1) (hOld.2.2.2.2.2.2.2.2.2.2.2.2.2.2.2.1), hkq4 _ _ _ (hOld.2.2.2.2.2.2.2.2.2.2.2.2.2.2.2.2.1), hkq4 _ _ _ (hOld.2.2.2.2.2.2.2.2.2.2.2.2.2.2.2.2.2.1), hkq4 _ _ _ (hOld.2.2.2.2.2.2.2.2.2.2.2.2.2.2.2.2.2.2.1), hkq4 _ _ _ (hOld.2.2.2.2.2.2.2.2.2.2.2.2.2.2.2.2.2.2.2.1), hkq4 _ _ _ (hOld.2.2.2.2.2.2.2.2.2.2.2.2.2.2.2.2.2.2.2.2.1), hkq4 _ _ _ (hOld.2.2.2.2.2.2.2.2.2.2.2.2.2.2.2.2.2.2.2.2.2)⟩
       clear hK K hOld
       replace nn5f0 := hfq4 _ _ _ nn50 nn5f0
       replace nn50 := hkq4 _ _ _ nn50
       replace nn5f1 := hfq4 _ _ _ nn51 nn5f1
       replace nn51 := hkq4 _ _ _ nn51
       clear hkq4 hfq4 hsq4
       have hzq4 : w.heap.size ≤ wq4.heap.size := hBq4.size
       (try simp only [Act.put, List.setIfInBounds_toArray, List.set_cons_zero, List.set_cons_succ])
       refine wpAnyH_ready (rs := [6]) (by kernel_rfl) (by simp) ?_
       refine AllReadyH.cons (o := ⟨none, _, _, _, _, none⟩) rfl (fun K hK => ?_) (AllReadyH.nil)
       (try dsimp only at hHeld)
       have hBq5 : Below w.heap.size w ((wq4.setCell ⟨wq2.heap.size, 0, none⟩ (.int .i64 (hiW C))).setCell ⟨wq2.heap.size, 1, none⟩ (.int .u64 (loW C))) := by go_grown
       have hOld := hHeld; clear hHeld; go_simp; refine hK.out _ _ ?_ (fun hHeld => ?_)
       · exact ⟨two_other (hOld.1) (Nat.ne_of_gt nn5l0), two_other (hOld.2.1) (Nat.ne_of_gt nn5l0), two_fz (hOld.2.2.1), two_fz (hOld.2.2.2.1), two_other (hOld.2.2.2.2.1) (Nat.ne_of_gt nn5l1), two_other (hOld.2.2.2.2.2.1) (Nat.ne_of_gt nn5l1), two_fz (hOld.2.2.2.2.2.2.1), two_fz (hOld.2.2.2.2.2.2.2.1), two_other (hOld.2.2.2.2.2.2.2.2.1) (Nat.ne_of_gt nn5l2), two_other (hOld.2.2.2.2.2.2.2.2.2.1) (Nat.ne_of_gt nn5l2), two_fz (hOld.2.2.2.2.2.2.2.2.2.2.1), two_fz (hOld.2.2.2.2.2.2.2.2.2.2.2.1), two_other (hOld.2.2.2.2.2.2.2.2.2.2.2.2.1) (Nat.ne_of_gt nn5l3), two_other (hOld.2.2.2.2.2.2.2.2.2.2.2.2.2.1) (Nat.ne_of_gt nn5l3), two_fz (hOld.2.2.2.2.2.2.2.2.2.2.2.2.2.2.1), two_fz (hOld.2.2.2.2.2.2.2.2.2.2.2.2.2.2.2.1), two_other (hOld.2.2.2.2.2.2.2.2.2.2.2.2.2.2.2.2.1) (Nat.ne_of_gt nn5l4), two_other (hOld.2.2.2.2.2.2.2.2.2.2.2.2.2.2.2.2.2.1) (Nat.ne_of_gt nn5l4), two_other (hOld.2.2.2.2.2.2.2.2.2.2.2.2.2.2.2.2.2.2.1) (Nat.ne_of_gt nn5l5), two_other (hOld.2.2.2.2.2.2.2.2.2.2.2.2.2.2.2.2.2.2.2.1) (Nat.ne_of_gt nn5l5), two_other (hOld.2.2.2.2.2.2.2.2.2.2.2.2.2.2.2.2.2.2.2.2.1) (Nat.ne_of_gt nn5l6), two_other (hOld.2.2.2.2.2.2.2.2.2.2.2.2.2.2.2.2.2.2.2.2.2) (Nat.ne_of_gt nn5l6)⟩
       clear hK K hOld
       (try dsimp only at hHeld)
       replace nn5f0 := two_fz (b := wq2.heap.size) (x := .int .i64 (hiW C)) (y := .int .u64 (loW C)) nn5f0
       replace nn50 := two_0 (x := .int .i64 (hiW C)) (y := .int .u64 (loW C)) nn50
       replace nn5f1 := two_fz (b := wq2.heap.size) (x := .int .i64 (hiW C)) (y := .int .u64 (loW C)) nn5f1
       replace nn51 := two_1 (x := .int .i64 (hiW C)) (y := .int .u64 (loW C)) nn51
       generalize ((wq4.setCell ⟨wq2.heap.size, 0, none⟩ (.int .i64 (hiW C))).setCell ⟨wq2.heap.size, 1, none⟩ (.int .u64 (loW C))) = wq5 at *
       have hzq5 : w.heap.size ≤ wq5.heap.size := hBq5.size
       (try simp only [Act.put, List.setIfInBounds_toArray, List.set_cons_zero, List.set_cons_succ])
       refine wpAnyH_done (by kernel_rfl) ?_ _
       go_wp2_with fail
       go_meet
       obtain ⟨ra0, ra1, raf0, raf1, rb0, rb1, rbf0, rbf1, rc0, rc1, rcf0, rcf1, rd0, rd1, rdf0, rdf1, xs0, xs1, xf0, xf1, xp0, xp1⟩ := hHeld
       exact ⟨_, rfl, ⟨hBp, by omega⟩, ⟨ra0, ra1, raf0, raf1, rb0, rb1, rbf0, rbf1, rc0, rc1, rcf0, rcf1, rd0, rd1, rdf0, rdf1, xp0, xp1⟩, nn50, nn51, by assumption⟩
     ·
      (try dsimp only at hHeld)
      have hBq2 : Below w.heap.size w (wq1.alloc (Obj.cells #[.int .i64 0, .int .u64 0] 78)) := by go_grown
      have nn50 : (wq1.alloc (Obj.cells #[.int .i64 0, .int .u64 0] 78)).cell? ⟨wq1.heap.size, 0, none⟩ = some (.int .i64 0) := by simp [go_sem]
      have nn5f0 : (wq1.alloc (Obj.cells #[.int .i64 0, .int .u64 0] 78)).frozen? ⟨wq1.heap.size, 0, none⟩ = false := by simp [go_sem]
      have nn51 : (wq1.alloc (Obj.cells #[.int .i64 0, .int .u64 0] 78)).cell? ⟨wq1.heap.size, 1, none⟩ = some (.int .u64 0) := by simp [go_sem]
      have nn5f1 : (wq1.alloc (Obj.cells #[.int .i64 0, .int .u64 0] 78)).frozen? ⟨wq1.heap.size, 1, none⟩ = false := by simp [go_sem]
      have nn5l0 : w.heap.size < wq1.heap.size := World.block_lt_of_cell? _ ⟨w.heap.size, 0, none⟩ (hHeld.1)
      have nn5l1 : w.heap.size + 1 < wq1.heap.size := World.block_lt_of_cell? _ ⟨w.heap.size + 1, 0, none⟩ (hHeld.2.2.2.2.1)
      have nn5l2 : w.heap.size + 1 + 1 < wq1.heap.size := World.block_lt_of_cell? _ ⟨w.heap.size + 1 + 1, 0, none⟩ (hHeld.2.2.2.2.2.2.2.2.1)
      have nn5l3 : w.heap.size + 1 + 1 + 1 < wq1.heap.size := World.block_lt_of_cell? _ ⟨w.heap.size + 1 + 1 + 1, 0, none⟩ (hHeld.2.2.2.2.2.2.2.2.2.2.2.2.1)
      have nn5l4 : w1.heap.size < wq1.heap.size := World.block_lt_of_cell? _ ⟨w1.heap.size, 0, none⟩ (hHeld.2.2.2.2.2.2.2.2.2.2.2.2.2.2.2.2.1)
      have nn5l5 : w2.heap.size < wq1.heap.size := World.block_lt_of_cell? _ ⟨w2.heap.size, 0, none⟩ (hHeld.2.2.2.2.2.2.2.2.2.2.2.2.2.2.2.2.2.2.1)
      have nn5l6 : Bp < wq1.heap.size := World.block_lt_of_cell? _ ⟨Bp, 0, none⟩ (hHeld.2.2.2.2.2.2.2.2.2.2.2.2.2.2.2.2.2.2.2.2.1)
      have hOld := hHeld; clear hHeld; go_simp; refine hK.out _ _ ?_ (fun hHeld => ?_)
      · exact ⟨keepA _ (hOld.1), keepA _ (hOld.2.1), keepAF _ (hOld.1) (hOld.2.2.1), keepAF _ (hOld.2.1) (hOld.2.2.2.1), keepA _ (hOld.2.2.2.2.1), keepA _ (hOld.2.2.2.2.2.1), keepAF _ (hOld.2.2.2.2.1) (hOld.2.2.2.2.2.2.1), keepAF _ (hOld.2.2.2.2.2.1) (hOld.2.2.2.2.2.2.2.1), keepA _ (hOld.2.2.2.2.2.2.2.2.1), keepA _ (hOld.2.2.2.2.2.2.2.2.2.1), keepAF _ (hOld.2.2.2.2.2.2.2.2.1) (hOld.2.2.2.2.2.2.2.2.2.2.1), keepAF _ (hOld.2.2.2.2.2.2.2.2.2.1) (hOld.2.2.2.2.2.2.2.2.2.2.2.1), keepA _ (hOld.2.2.2.2.2.2.2.2.2.2.2.2.1), keepA _ (hOld.2.2.2.2.2.2.2.2.2.2.2.2.2.1), keepAF _ (hOld.2.2.2.2.2.2.2.2.2.2.2.2.1) (hOld.2.2.2.2.2.2.2.2.2.2.2.2.2.2.1), keepAF _ (hOld.2.2.2.2.2.2.2.2.2.2.2.2.2.1) (hOld.2.2.2.2.2.2.2.2.2.2.2.2.2.2.2.1), keepA _ (hOld.2.2.2.2.2.2.2.2.2.2.2.2.2.2.2.2.1), keepA _ (hOld.2.2.2.2.2.2.2.2.2.2.2.2.2.2.2.2.2.1), keepA _ (hOld.2.2.2.2.2.2.2.2.2.2.2.2.2.2.2.2.2.2.1), keepA _ (hOld.2.2.2.2.2.2.2.2.2.2.2.2.2.2.2.2.2.2.2.1), keepA _ (hOld.2.2.2.2.2.2.2.2.2.2.2.2.2.2.2.2.2.2.2.2.1), keepA _ (hOld.2.2.2.2.2.2.2.2.2.2.2.2.2.2.2.2.2.2.2.2.2)⟩
      clear hK K hOld
      (try dsimp only at hHeld)
      generalize (wq1.alloc (Obj.cells #[.int .i64 0, .int .u64 0] 78)) = wq2 at *
      have hzq2 : w.heap.size ≤ wq2.heap.size := hBq2.size
      (try simp only [Act.put, List.setIfInBounds_toArray, List.set_cons_zero, List.set_cons_succ])
      refine wpAnyH_ready (rs := [3]) (by kernel_rfl) (by simp) ?_
      refine AllReadyH.cons (o := ⟨some 21, _, _, _, _, none⟩) rfl (fun K hK => ?_) (AllReadyH.nil)
      go_simp
      (go_at_call 85; refine useF w (k5.out _) (by go_grown) ?_; rintro e wq3 rfl hBq3 hkq3 hfq3 hsq3)
      have hOld := hHeld; clear hHeld; refine hK.out _ _ ?_ (fun hHeld => ?_)
      · exact ⟨hkq3 _ _ _ (hOld.1), hkq3 _ _ _ (hOld.2.1), hfq3 _ _ _ (hOld.1) (hOld.2.2.1), hfq3 _ _ _ (hOld.2.1) (hOld.2.2.2.1), hkq3 _ _ _ (hOld.2.2.2.2.1), hkq3 _ _ _ (hOld.2.2.2.2.2.1), hfq3 _ _ _ (hOld.2.2.2.2.1) (hOld.2.2.2.2.2.2.1), hfq3 _ _ _ (hOld.2.2.2.2.2.1) (hOld.2.2.2.2.2.2.2.1), hkq3 _ _ _ (hOld.2.2.2.2.2.2.2.2.1), hkq3 _ _ _ (hOld.2.2.2.2.2.2.2.2.2.1), hfq3 _ _ _ (hOld.2.2.2.2.2.2.2.2.1) (hOld.2.2.2.2.2.2.2.2.2.2.1), hfq3 _ _ _ (hOld.2.2.2.2.2.2.2.2.2.1) (hOld.2.2.2.2.2.2.2.2.2.2.2.1), hkq3 _ _ _ (hOld.2.2.2.2.2.2.2.2.2.2.2.2.1), hkq3 _ _ _ (hOld.2.2.2.2.2.2.2.2.2.2.2.2.2.1), hfq3 _ _ _ (hOld.2.2.2.2.2.2.2.2.2.2.2.2.1) (hOld.2.2.2.2.2.2.2.2.2.2.2.2.2.2.1), hfq3 _ _ _ (hOld.2.2.2.2.2.2.2.2.2.2.2.2.2.1) (hOld.2.2.2.2.2.2.2.2.2.2.2.2.2.2.2.1), hkq3 _ _ _ (hOld.2.2.2.2.2.2.2.2.2.2.2.2.2.2.2.2.1), hkq3 _ _ _ (hOld.2.2.2.2.2.2.2.2.2.2.2.2.2.2.2.2.2.1), hkq3 _ _ _ (hOld.2.2.2.2.2.2.2.2.2.2.2.2.2.2.2.2.2.2.1), hkq3 _ _ _ (hOld.2.2.2.2.2.2.2.2.2.2.2.2.2.2.2.2.2.2.2.1), hkq3 _ _ _ (hOld.2.2.2.2.2.2.2.2.2.2.2.2.2.2.2.2.2.2.2.2.1), hkq3 _ _ _ (hOld.2.2.2.2.2.2.2.2.2.2.2.2.2.2.2.2.2.2.2.2.2)⟩
      clear hK K hOld
      replace nn5f0 := hfq3 _ _ _ nn50 nn5f0
      replace nn50 := hkq3 _ _ _ nn50
      replace nn5f1 := hfq3 _ _ _ nn51 nn5f1
      replace nn51 := hkq3 _ _ _ nn51
      clear hkq3 hfq3 hsq3
      have hzq3 : w.heap.size ≤ wq3.heap.size := hBq3.size
      (try simp only [Act.put, List.setIfInBounds_toArray, List.set_cons_zero, List.set_cons_succ])
      refine wpAnyH_ready (rs := [4]) (by kernel_rfl) (by simp) ?_
      refine AllReadyH.cons (o := ⟨some 22, _, _, _, _, none⟩) rfl (fun K hK => ?_) (AllReadyH.nil)
      go_simp
      (go_at_call 78; refine useF w (k6.out _) (by go_grown) ?_; rintro e wq4 rfl hBq4 hkq4 hfq4 hsq4)
      have hOld := hHeld; clear hHeld; refine hK.out _ _ ?_ (fun hHeld => ?_)
      · exact ⟨hkq4 _ _ _ (hOld.1), hkq4 _ _ _ (hOld.2.1), hfq4 _ _ _ (hOld.1) (hOld.2.2.1), hfq4 _ _ _ (hOld.2.1) (hOld.2.2.2.1), hkq4 _ _ _ (hOld.2.2.2.2.1), hkq4 _ _ _ (hOld.2.2.2.2.2.1), hfq4 _ _ _ (hOld.2.2.2.2.1) (hOld.2.2.2.2.2.2.1), hfq4 _ _ _ (hOld.2.2.2.2.2.1) (hOld.2.2.2.2.2.2.2.1), hkq4 _ _ _ (hOld.2.2.2.2.2.2.2.2.1), hkq4 _ _ _ (hOld.2.2.2.2.2.2.2.2.2.1), hfq4 _ _ _ (hOld.2.2.2.2.2.2.2.2.1) (hOld.2.2.2.2.2.2.2.2.2.2.1), hfq4 _ _ _ (hOld.2.2.2.2.2.2.2.2.2.1) (hOld.2.2.2.2.2.2.2.2.2.2.2.1), hkq4 _ _ _ (hOld.2.2.2.2.2.2.2.2.2.2.2.2.1), hkq4 _ _ _ (hOld.2.2.2.2.2.2.2.2.2.2.2.2.2.1), hfq4 _ _ _ (hOld.2.2.2.2.2.2.2.2.2.2.2.2.1) (hOld.2.2.2.2.2.2.2.2.2.2.2.2.2.2.1), hfq4 _ _ _ (hOld.2.2.2.2.2.2.2.2.2.2.2.2.2.1) (hOld.2.2.2.2.2.2.2.2.2.2.2.2.2.2.2.1), hkq4 _ _ _ (hOld.2.2.2.2.2.2.2.2.2.2.2.2.2.2.2.2.1), hkq4 _ _ _ (hOld.2.2.2.2.2.2.2.2.2.2.2.2.2.2.2.2.2.1), hkq4 _ _ _ (hOld.2.2.2.2.2.2.2.2.2.2.2.2.2.2.2.2.2.2.1), hkq4 _ _ _ (hOld.2.2.2.2.2.2.2.2.2.2.2.2.2.2.2.2.2.2.2.1), hkq4 _ _ _ (hOld.2.2.2.2.2.2.2.2.2.2.2.2.2.2.2.2.2.2.2.2.1), hkq4 _ _ _ (hOld.2.2.2.2.2.2.2.2.2.2.2.2.2.2.2.2.2.2.2.2.2)⟩
      clear hK K hOld
      replace nn5f0 := hfq4 _ _ _ nn50 nn5f0
      replace nn50 := hkq4 _ _ _ nn50
      replace nn5f1 := hfq4 _ _ _ nn51 nn5f1
      replace nn51 := hkq4 _ _ _ nn51
      clear hkq4 hfq4 hsq4
      have hzq4 : w.heap.size ≤ wq4.heap.size := hBq4.size
      (try simp only [Act.put, List.setIfInBounds_toArray, List.set_cons_zero, List.set_cons_succ])
      refine wpAnyH_ready (rs := [6]) (by kernel_rfl) (by simp) ?_
      refine AllReadyH.cons (o := ⟨none, _, _, _, _, none⟩) rfl (fun K hK => ?_) (AllReadyH.nil)
      (try dsimp only at hHeld)
      have hBq5 : Below w.heap.size w ((wq4.setCell ⟨wq1.heap.size, 0, none⟩ (.int .i64 (hiW C))).setCell ⟨wq1.heap.size, 1, none⟩ (.int .u64 (loW C))) := by go_grown
      have hOld := hHeld; clear hHeld; go_simp; refine hK.out _ _ ?_ (fun hHeld => ?_)
      · exact ⟨two_other (hOld.1) (Nat.ne_of_gt nn5l0), two_other (hOld.2.1) (Nat.ne_of_gt nn5l0), two_fz (hOld.2.2.1), two_fz (hOld.2.2.2.1), two_other (hOld.2.2.2.2.1) (Nat.ne_of_gt nn5l1), two_other (hOld.2.2.2.2.2.1) (Nat.ne_of_gt nn5l1), two_fz (hOld.2.2.2.2.2.2.1), two_fz (hOld.2.2.2.2.2.2.2.1), two_other (hOld.2.2.2.2.2.2.2.2.1) (Nat.ne_of_gt nn5l2), two_other (hOld.2.2.2.2.2.2.2.2.2.1) (Nat.ne_of_gt nn5l2), two_fz (hOld.2.2.2.2.2.2.2.2.2.2.1), two_fz (hOld.2.2.2.2.2.2.2.2.2.2.2.1), two_other (hOld.2.2.2.2.2.2.2.2.2.2.2.2.1) (Nat.ne_of_gt nn5l3), two_other (hOld.2.2.2.2.2.2.2.2.2.2.2.2.2.1) (Nat.ne_of_gt nn5l3), two_fz (hOld.2.2.2.2.2.2.2.2.2.2.2.2.2.2.1), two_fz (hOld.2.2.2.2.2.2.2.2.2.2.2.2.2.2.2.1), two_other (hOld.2.2.2.2.2.2.2.2.2.2.2.2.2.2.2.2.1) (Nat.ne_of_gt nn5l4), two_other (hOld.2.2.2.2.2.2.2.2.2.2.2.2.2.2.2.2.2.1) (Nat.ne_of_gt nn5l4), two_other (hOld.2.2.2.2.2.2.2.2.2.2.2.2.2.2.2.2.2.2.1) (Nat.ne_of_gt nn5l5), two_other (hOld.2.2.2.2.2.2.2.2.2.2.2.2.2.2.2.2.2.2.2.1) (Nat.ne_of_gt nn5l5), two_other (hOld.2.2.2.2.2.2.2.2.2.2.2.2.2.2.2.2.2.2.2.2.1) (Nat.ne_of_gt nn5l6), two_other (hOld.2.2.2.2.2.2.2.2.2.2.2.2.2.2.2.2.2.2.2.2.2) (Nat.ne_of_gt nn5l6)⟩
      clear hK K hOld
      (try dsimp only at hHeld)
      replace nn5f0 := two_fz (b := wq1.heap.size) (x := .int .i64 (hiW C)) (y := .int .u64 (loW C)) nn5f0
      replace nn50 := two_0 (x := .int .i64 (hiW C)) (y := .int .u64 (loW C)) nn50
      replace nn5f1 := two_fz (b := wq1.heap.size) (x := .int .i64 (hiW C)) (y := .int .u64 (loW C)) nn5f1
      replace nn51 := two_1 (x := .int .i64 (hiW C)) (y := .int .u64 (loW C)) nn51
      generalize ((wq4.setCell ⟨wq1.heap.size, 0, none⟩ (.int .i64 (hiW C))).setCell ⟨wq1.heap.size, 1, none⟩ (.int .u64 (loW C))) = wq5 at *
      have hzq5 : w.heap.size ≤ wq5.heap.size := hBq5.size
      (try simp only [Act.put, List.setIfInBounds_toArray, List.set_cons_zero, List.set_cons_succ])
      refine wpAnyH_done (by kernel_rfl) ?_ _
      go_wp2_with fail
      go_meet
      obtain ⟨ra0, ra1, raf0, raf1, rb0, rb1, rbf0, rbf1, rc0, rc1, rcf0, rcf1, rd0, rd1, rdf0, rdf1, xs0, xs1, xf0, xf1, xp0, xp1⟩ := hHeld
      exact ⟨_, rfl, ⟨hBp, by omega⟩, ⟨ra0, ra1, raf0, raf1, rb0, rb1, rbf0, rbf1, rc0, rc1, rcf0, rcf1, rd0, rd1, rdf0, rdf1, xp0, xp1⟩, nn50, nn51, by assumption⟩
    ·
     (try dsimp only at hHeld)
     have hBq1 : Below w.heap.size w (wq0.alloc (Obj.cells #[.int .i64 0, .int .u64 0] 78)) := by go_grown
     have nn50 : (wq0.alloc (Obj.cells #[.int .i64 0, .int .u64 0] 78)).cell? ⟨wq0.heap.size, 0, none⟩ = some (.int .i64 0) := by simp [go_sem]
     have nn5f0 : (wq0.alloc (Obj.cells #[.int .i64 0, .int .u64 0] 78)).frozen? ⟨wq0.heap.size, 0, none⟩ = false := by simp [go_sem]
     have nn51 : (wq0.alloc (Obj.cells #[.int .i64 0, .int .u64 0] 78)).cell? ⟨wq0.heap.size, 1, none⟩ = some (.int .u64 0) := by simp [go_sem]
     have nn5f1 : (wq0.alloc (Obj.cells #[.int .i64 0, .int .u64 0] 78)).frozen? ⟨wq0.heap.size, 1, none⟩ = false := by simp [go_sem]
     have nn5l0 : w.heap.size < wq0.heap.size := World.block_lt_of_cell? _ ⟨w.heap.size, 0, none⟩ (hHeld.1)
     have nn5l1 : w.heap.size + 1 < wq0.heap.size := World.block_lt_of_cell? _ ⟨w.heap.size + 1, 0, none⟩ (hHeld.2.2.2.2.1)
     have nn5l2 : w.heap.size + 1 + 1 < wq0.heap.size := World.block_lt_of_cell? _ ⟨w.heap.size + 1 + 1, 0, none⟩ (hHeld.2.2.2.2.2.2.2.2.1)
     have nn5l3 : w.heap.size + 1 + 1 + 1 < wq0.heap.size := World.block_lt_of_cell? _ ⟨w.heap.size + 1 + 1 + 1, 0, none⟩ (hHeld.2.2.2.2.2.2.2.2.2.2.2.2.1)
     have nn5l4 : w1.heap.size < wq0.heap.size := World.block_lt_of_cell? _ ⟨w1.heap.size, 0, none⟩ (hHeld.2.2.2.2.2.2.2.2.2.2.2.2.2.2.2.2.1)
     have nn5l5 : w2.heap.size < wq0.heap.size := World.block_lt_of_cell? _ ⟨w2.heap.size, 0, none⟩ (hHeld.2.2.2.2.2.2.2.2.2.2.2.2.2.2.2.2.2.2.1)
     have nn5l6 : Bp < wq0.heap.size := World.block_lt_of_cell? _ ⟨Bp, 0, none⟩ (hHeld.2.2.2.2.2.2.2.2.2.2.2.2.2.2.2.2.2.2.2.2.1)
     have hOld := hHeld; clear hHeld; go_simp; refine hK.out _ _ ?_ (fun hHeld => ?_)
     · exact ⟨keepA _ (hOld.1), keepA _ (hOld.2.1), keepAF _ (hOld.1) (hOld.2.2.1), keepAF _ (hOld.2.1) (hOld.2.2.2.1), keepA _ (hOld.2.2.2.2.1), keepA _ (hOld.2.2.2.2.2.1), keepAF _ (hOld.2.2.2.2.1) (hOld.2.2.2.2.2.2.1), keepAF _ (hOld.2.2.2.2.2.1) (hOld.2.2.2.2.2.2.2.1), keepA _ (hOld.2.2.2.2.2.2.2.2.1), keepA _ (hOld.2.2.2.2.2.2.2.2.2.1), keepAF _ (hOld.2.2.2.2.2.2.2.2.1) (hOld.2.2.2.2.2.2.2.2.2.2.1), keepAF _ (hOld.2.2.2.2.2.2.2.2.2.1) (hOld.2.2.2.2.2.2.2.2.2.2.2.1), keepA _ (hOld.2.2.2.2.2.2.2.2.2.2.2.2.1), keepA _ (hOld.2.2.2.2.2.2.2.2.2.2.2.2.2.1), keepAF _ (hOld.2.2.2.2.2.2.2.2.2.2.2.2.1) (hOld.2.2.2.2.2.2.2.2.2.2.2.2.2.2.1), keepAF _ (hOld.2.2.2.2.2.2.2.2.2.2.2.2.2.1) (hOld.2.2.2.2.2.2.2.2.2.2.2.2.2.2.2.1), keepA _ (hOld.2.2.2.2.2.2.2.2.2.2.2.2.2.2.2.2.1), keepA _ (hOld.2.2.2.2.2.2.2.2.2.2.2.2.2.2.2.2.2.1), keepA _ (hOld.2.2.2.2.2.2.2.2.2.2.2.2.2.2.2.2.2.2.1), keepA _ (hOld.2.2.2.2.2.2.2.2.2.2.2.2.2.2.2.2.2.2.2.1), keepA _ (hOld.2.2.2.2.2.2.2.2.2.2.2.2.2.2.2.2.2.2.2.2.1), keepA _ (hOld.2.2.2.2.2.2.2.2.2.2.2.2.2.2.2.2.2.2.2.2.2)⟩
     clear hK K hOld
     (try dsimp only at hHeld)
     generalize (wq0.alloc (Obj.cells #[.int .i64 0, .int .u64 0] 78)) = wq1 at *
     have hzq1 : w.heap.size ≤ wq1.heap.size := hBq1.size
     (try simp only [Act.put, List.setIfInBounds_toArray, List.set_cons_zero, List.set_cons_succ])
     refine wpAnyH_ready (rs := [2]) (by kernel_rfl) (by simp) ?_
     refine AllReadyH.cons (o := ⟨some 20, _, _, _, _, none⟩) rfl (fun K hK => ?_) (AllReadyH.nil)
     go_simp
     (go_at_call 96; refine useF w (k4.out _) (by go_grown) ?_; rintro e wq2 rfl hBq2 hkq2 hfq2 hsq2)
     have hOld := hHeld; clear hHeld; refine hK.out _ _ ?_ (fun hHeld => ?_)
     · exact ⟨hkq2 _ _ _ (hOld.1), hkq2 _ _ _ (hOld.2.1), hfq2 _ _ _ (hOld.1) (hOld.2.2.1), hfq2 _ _ _ (hOld.2.1) (hOld.2.2.2.1), hkq2 _ _ _ (hOld.2.2.2.2.1), hkq2 _ _ _ (hOld.2.2.2.2.2.1), hfq2 _ _ _ (hOld.2.2.2.2.1) (hOld.2.2.2.2.2.2.1), hfq2 _ _ _ (hOld.2.2.2.2.2.1) (hOld.2.2.2.2.2.2.2.1), hkq2 _ _ _ (hOld.2.2.2.2.2.2.2.2.1), hkq2 _ _ _ (hOld.2.2.2.2.2.2.2.2.2.1), hfq2 _ _ _ (hOld.2.2.2.2.2.2.2.2.1) (hOld.2.2.2.2.2.2.2.2.2.2.1), hfq2 _ _ _ (hOld.2.2.2.2.2.2.2.2.2.1) (hOld.2.2.2.2.2.2.2.2.2.2.2.1), hkq2 _ _ _ (hOld.2.2.2.2.2.2.2.2.2.2.2.2.1), hkq2 _ _ _ (hOld.2.2.2.2.2.2.2.2.2.2.2.2.2.1), hfq2 _ _ _ (hOld.2.2.2.2.2.2.2.2.2.2.2.2.1) (hOld.2.2.2.2.2.2.2.2.2.2.2.2.2.2.1), hfq2 _ _ _ (hOld.2.2.2.2.2.2.2.2.2.2.2.2.2.1) (hOld.2.2.2.2.2.2.2.2.2.2.2.2.2.2.2.1), hkq2 _ _ _ (hOld.2.2.2.2.2.2.2.2.2.2.2.2.2.2.2.2.1), hkq2 _ _ _ (hOld.2.2.2.2.2.2.2.2.2.2.2.2.2.2.2.2.2.1), hkq2 _ _ _ (hOld.2.2.2.2.2.2.2.2.2.2.2.2.2.2.2.2.2.2.1), hkq2 _ _ _ (hOld.2.2.2.2.2.2.2.2.2.2.2.2.2.2.2.2.2.2.2.1), hkq2 _ _ _ (hOld.2.2.2.2.2.2.2.2.2.2.2.2.2.2.2.2.2.2.2.2.1), hkq2 _ _ _ (hOld.2.2.2.2.2.2.2.2.2.2.2.2.2.2.2.2.2.2.2.2.2)⟩
     clear hK K hOld
     replace nn5f0 := hfq2 _ _ _ nn50 nn5f0
     replace nn50 := hkq2 _ _ _ nn50
     replace nn5f1 := hfq2 _ _ _ nn51 nn5f1
     replace nn51 := hkq2 _ _ _ nn51
     clear hkq2 hfq2 hsq2
     have hzq2 : w.heap.size ≤ wq2.heap.size := hBq2.size
     (try simp only [Act.put, List.setIfInBounds_toArray, List.set_cons_zero, List.set_cons_succ])
     refine wpAnyH_ready (rs := [3]) (by kernel_rfl) (by simp) ?_
     refine AllReadyH.cons (o := ⟨some 21, _, _, _, _, none⟩) rfl (fun K hK => ?_) (AllReadyH.nil)
     go_simp
     (go_at_call 85; refine useF w (k5.out _) (by go_grown) ?_; rintro e wq3 rfl hBq3 hkq3 hfq3 hsq3)
     have hOld := hHeld; clear hHeld; refine hK.out _ _ ?_ (fun hHeld => ?_)
     · exact ⟨hkq3 _ _ _ (hOld.1), hkq3 _ _ _ (hOld.2.1), hfq3 _ _ _ (hOld.1) (hOld.2.2.1), hfq3 _ _ _ (hOld.2.1) (hOld.2.2.2.1), hkq3 _ _ _ (hOld.2.2.2.2.1), hkq3 _ _ _ (hOld.2.2.2.2.2.1), hfq3 _ _ _ (hOld.2.2.2.2.1) (hOld.2.2.2.2.2.2.1), hfq3 _ _ _ (hOld.2.2.2.2.2.1) (hOld.2.2.2.2.2.2.2.1), hkq3 _ _ _ (hOld.2.2.2.2.2.2.2.2.1), hkq3 _ _ _ (hOld.2.2.2.2.2.2.2.2.2.1), hfq3 _ _ _ (hOld.2.2.2.2.2.2.2.2.1) (hOld.2.2.2.2.2.2.2.2.2.2.1), hfq3 _ _ _ (hOld.2.2.2.2.2.2.2.2.2.1) (hOld.2.2.2.2.2.2.2.2.2.2.2.1), hkq3 _ _ _ (hOld.2.2.2.2.2.2.2.2.2.2.2.2.1), hkq3 _ _ _ (hOld.2.2.2.2.2.2.2.2.2.2.2.2.2.1), hfq3 _ _ _ (hOld.2.2.2.2.2.2.2.2.2.2.2.2.1) (hOld.2.2.2.2.2.2.2.2.2.2.2.2.2.2.1), hfq3 _ _ _ (hOld.2.2.2.2.2.2.2.2.2.2.2.2.2.1) (hOld.2.2.2.2.2.2.2.2.2.2.2.2.2.2.2.1), hkq3 _ _ _ (hOld.2.2.2.2.2.2.2.2.2.2.2.2.2.2.2.2.1), hkq3 _ _ _ (hOld.2.2.2.2.2.2.2.2.2.2.2.2.2.2.2.2.2.1), hkq3 _ _ _ (hOld.2.2.2.2.2.2.2.2.2.2.2.2.2.2.2.2.2.2.1), hkq3 _ _ _ (hOld.2.2.2.2.2.2.2.2.2.2.2.2.2.2.2.2.2.2.2.1), hkq3 _ _ _ (hOld.2.2.2.2.2.2.2.2.2.2.2.2.2.2.2.2.2.2.2.2.1), hkq3 _ _ _ (hOld.2.2.2.2.2.2.2.2.2.2.2.2.2.2.2.2.2.2.2.2.2)⟩
     clear hK K hOld
     replace nn5f0 := hfq3 _ _ _ nn50 nn5f0
     replace nn50 := hkq3 _ _ _ nn50
     replace nn5f1 := hfq3 _ _ _ nn51 nn5f1
     replace nn51 := hkq3 _ _ _ nn51
     clear hkq3 hfq3 hsq3
     have hzq3 : w.heap.size ≤ wq3.heap.size := hBq3.size
     (try simp only [Act.put, List.setIfInBounds_toArray, List.set_cons_zero, List.set_cons_succ])
     refine wpAnyH_ready (rs := [4]) (by kernel_rfl) (by simp) ?_
     refine AllReadyH.cons (o := ⟨some 22, _, _, _, _, none⟩) rfl (fun K hK => ?_) (AllReadyH.nil)
     go_simp
     (go_at_call 78; refine useF w (k6.out _) (by go_grown) ?_; rintro e wq4 rfl hBq4 hkq4 hfq4 hsq4)
     have hOld := hHeld; clear hHeld; refine hK.out _ _ ?_ (fun hHeld => ?_)
     · exact ⟨hkq4 _ _ _ (hOld.1), hkq4 _ _ _ (hOld.2.1), hfq4 _ _ _ (hOld.1) (hOld.2.2.1), hfq4 _ _ _ (hOld.2.1) (hOld.2.2.2.1), hkq4 _ _ _ (hOld.2.2.2.2.1), hkq4 _ _ _ (hOld.2.2.2.2.2.1), hfq4 _ _ _ (hOld.2.2.2.2.1) (hOld.2.2.2.2.2.2.1), hfq4 _ _ _ (hOld.2.2.2.2.2.1) (hOld.2.2.2.2.2.2.2.1), hkq4 _ _ _ (hOld.2.2.2.2.2.2.2.2.1), hkq4 _ _ _ (hOld.2.2.2.2.2.2.2.2.2.1), hfq4 _ _ _ (hOld.2.2.2.2.2.2.2.2.1) (hOld.2.2.2.2.2.2.2.2.2.2.1), hfq4 _ _ _ (hOld.2.2.2.2.2.2.2.2.2.1) (hOld.2.2.2.2.2.2.2.2.2.2.2.1), hkq4 _ _ _ (hOld.2.2.2.2.2.2.2.2.2.2.2.2.1), hkq4 _ _ _ (hOld.2.2.2.2.2.2.2.2.2.2.2.2.2.1), hfq4 _ _ _ (hOld.2.2.2.2.2.2.2.2.2.2.2.2.1) (hOld.2.2.2.2.2.2.2.2.2.2.2.2.2.2.1), hfq4 _ _ _ (hOld.2.2.2.2.2.2.2.2.2.2.2.2.2.1) (hOld.2.2.2.2.2.2.2.2.2.2.2.2.2.2.2.1), hkq4 _ _ _ (hOld.2.2.2.2.2.2.2.2.2.2.2.2.2.2.2.2.1), hkq4 _ _ _ (hOld.2.2.2.2.2.2.2.2.2.2.2.2.2.2.2.2.2.1), hkq4 _ _ _ (hOld.2.2.2.2.2.2.2.2.2.2.2.2.2.2.2.2.2.2.1), hkq4 _ _ _ (hOld.2.2.2.2.2.2.2.2.2.2.2.2.2.2.2.2.2.2.2.1), hkq4 _ _ _ (hOld.2.2.2.2.2.2.2.2.2.2.2.2.2.2.2.2.2.2.2.2.1), hkq4 _ _ _ (hOld.2.2.2.2.2.2.2.2.2.2.2.2.2.2.2.2.2.2.2.2.2)⟩
     clear hK K hOld
     replace nn5f0 := hfq4 _ _ _ nn50 nn5f0
     replace nn50 := hkq4 _ _ _ nn50
     replace nn5f1 := hfq4 _ _ _ nn51 nn5f1
     replace nn51 := hkq4 _ _ _ nn51
     clear hkq4 hfq4 hsq4
     have hzq4 : w.heap.size ≤ wq4.heap.size := hBq4.size
     (try simp only [Act.put, List.setIfInBounds_toArray, List.set_cons_zero, List.set_cons_succ])
     refine wpAnyH_ready (rs := [6]) (by kernel_rfl) (by simp) ?_
     refine AllReadyH.cons (o := ⟨none, _, _, _, _, none⟩) rfl (fun K hK => ?_) (AllReadyH.nil)
     (try dsimp only at hHeld)
     have hBq5 : Below w.heap.size w ((wq4.setCell ⟨wq0.heap.size, 0, none⟩ (.int .i64 (hiW C))).setCell ⟨wq0.heap.size, 1, none⟩ (.int .u64 (loW C))) := by go_grown
     have hOld := hHeld; clear hHeld; go_simp; refine hK.out _ _ ?_ (fun hHeld => ?_)
     · exact ⟨two_other (hOld.1) (Nat.ne_of_gt nn5l0), two_other (hOld.2.1) (Nat.ne_of_gt nn5l0), two_fz (hOld.2.2.1), two_fz (hOld.2.2.2.1), two_other (hOld.2.2.2.2.1) (Nat.ne_of_gt nn5l1), two_other (hOld.2.2.2.2.2.1) (Nat.ne_of_gt nn5l1), two_fz (hOld.2.2.2.2.2.2.1), two_fz (hOld.2.2.2.2.2.2.2.1), two_other (hOld.2.2.2.2.2.2.2.2.1) (Nat.ne_of_gt nn5l2), two_other (hOld.2.2.2.2.2.2.2.2.2.1) (Nat.ne_of_gt nn5l2), two_fz (hOld.2.2.2.2.2.2.2.2.2.2.1), two_fz (hOld.2.2.2.2.2.2.2.2.2.2.2.1), two_other (hOld.2.2.2.2.2.2.2.2.2.2.2.2.1) (Nat.ne_of_gt nn5l3), two_other (hOld.2.2.2.2.2.2.2.2.2.2.2.2.2.1) (Nat.ne_of_gt nn5l3), two_fz (hOld.2.2.2.2.2.2.2.2.2.2.2.2.2.2.1), two_fz (hOld.2.2.2.2.2.2.2.2.2.2.2.2.2.2.2.1), two_other (hOld.2.2.2.2.2.2.2.2.2.2.2.2.2.2.2.2.1) (Nat.ne_of_gt nn5l4), two_other (hOld.2.2.2.2.2.2.2.2.2.2.2.2.2.2.2.2.2.1) (Nat.ne_of_gt nn5l4), two_other (hOld.2.2.2.2.2.2.2.2.2.2.2.2.2.2.2.2.2.2.1) (Nat.ne_of_gt nn5l5), two_other (hOld.2.2.2.2.2.2.2.2.2.2.2.2.2.2.2.2.2.2.2.1) (Nat.ne_of_gt nn5l5), two_other (hOld.2.2.2.2.2.2.2.2.2.2.2.2.2.2.2.2.2.2.2.2.1) (Nat.ne_of_gt nn5l6), two_other (hOld.2.2.2.2.2.2.2.2.2.2.2.2.2.2.2.2.2.2.2.2.2) (Nat.ne_of_gt nn5l6)⟩
     clear hK K hOld
     (try dsimp only at hHeld)
     replace nn5f0 := two_fz (b := wq0.heap.size) (x := .int .i64 (hiW C)) (y := .int .u64 (loW C)) nn5f0
     replace nn50 := two_0 (x := .int .i64 (hiW C)) (y := .int .u64 (loW C)) nn50
     replace nn5f1 := two_fz (b := wq0.heap.size) (x := .int .i64 (hiW C)) (y := .int .u64 (loW C)) nn5f1
     replace nn51 := two_1 (x := .int .i64 (hiW C)) (y := .int .u64 (loW C)) nn51
     generalize ((wq4.setCell ⟨wq0.heap.size, 0, none⟩ (.int .i64 (hiW C))).setCell ⟨wq0.heap.size, 1, none⟩ (.int .u64 (loW C))) = wq5 at *
     have hzq5 : w.heap.size ≤ wq5.heap.size := hBq5.size
     (try simp only [Act.put, List.setIfInBounds_toArray, List.set_cons_zero, List.set_cons_succ])
     refine wpAnyH_done (by kernel_rfl) ?_ _
     go_wp2_with fail
     go_meet
     obtain ⟨ra0, ra1, raf0, raf1, rb0, rb1, rbf0, rbf1, rc0, rc1, rcf0, rcf1, rd0, rd1, rdf0, rdf1, xs0, xs1, xf0, xf1, xp0, xp1⟩ := hHeld
     exact ⟨_, rfl, ⟨hBp, by omega⟩, ⟨ra0, ra1, raf0, raf1, rb0, rb1, rbf0, rbf1, rc0, rc1, rcf0, rcf1, rd0, rd1, rdf0, rdf1, xp0, xp1⟩, nn50, nn51, by assumption⟩
  case rest =>
    obtain ⟨Ba, rfl, ⟨hBp, hBa⟩, ⟨ra0, ra1, raf0, raf1, rb0, rb1, rbf0, rbf1, rc0, rc1, rcf0, rcf1, rd0, rd1, rdf0, rdf1, xp0, xp1⟩, xa0, xa1, hB⟩ := hcut
    go_wp2_with fail
    refine useF w (k7.out _) (by go_grown) ?_; rintro e w31 rfl hB31 hk31 hf31 hs31; clear hs31
    replace raf0 : w31.frozen? ⟨w.heap.size, 0, none⟩ = false := hf31 _ _ (.int .i64 0) (ra0) (raf0)
    replace ra0 : w31.cell? ⟨w.heap.size, 0, none⟩ = some (.int .i64 0) := hk31 _ _ _ (ra0)
    replace raf1 : w31.frozen? ⟨w.heap.size, 1, none⟩ = false := hf31 _ _ (.int .u64 0) (ra1) (raf1)
    replace ra1 : w31.cell? ⟨w.heap.size, 1, none⟩ = some (.int .u64 0) := hk31 _ _ _ (ra1)
    replace rbf0 : w31.frozen? ⟨w.heap.size + 1, 0, none⟩ = false := hf31 _ _ (.int .i64 0) (rb0) (rbf0)
    replace rb0 : w31.cell? ⟨w.heap.size + 1, 0, none⟩ = some (.int .i64 0) := hk31 _ _ _ (rb0)
    replace rbf1 : w31.frozen? ⟨w.heap.size + 1, 1, none⟩ = false := hf31 _ _ (.int .u64 0) (rb1) (rbf1)
    replace rb1 : w31.cell? ⟨w.heap.size + 1, 1, none⟩ = some (.int .u64 0) := hk31 _ _ _ (rb1)
    replace rcf0 : w31.frozen? ⟨w.heap.size + 1 + 1, 0, none⟩ = false := hf31 _ _ (.int .i64 0) (rc0) (rcf0)
    replace rc0 : w31.cell? ⟨w.heap.size + 1 + 1, 0, none⟩ = some (.int .i64 0) := hk31 _ _ _ (rc0)
    replace rcf1 : w31.frozen? ⟨w.heap.size + 1 + 1, 1, none⟩ = false := hf31 _ _ (.int .u64 0) (rc1) (rcf1)
    replace rc1 : w31.cell? ⟨w.heap.size + 1 + 1, 1, none⟩ = some (.int .u64 0) := hk31 _ _ _ (rc1)
    replace rdf0 : w31.frozen? ⟨w.heap.size + 1 + 1 + 1, 0, none⟩ = false := hf31 _ _ (.int .i64 0) (rd0) (rdf0)
    replace rd0 : w31.cell? ⟨w.heap.size + 1 + 1 + 1, 0, none⟩ = some (.int .i64 0) := hk31 _ _ _ (rd0)
    replace rdf1 : w31.frozen? ⟨w.heap.size + 1 + 1 + 1, 1, none⟩ = false := hf31 _ _ (.int .u64 0) (rd1) (rdf1)
    replace rd1 : w31.cell? ⟨w.heap.size + 1 + 1 + 1, 1, none⟩ = some (.int .u64 0) := hk31 _ _ _ (rd1)
    replace xp0 : w31.cell? ⟨Bp, 0, none⟩ = some (.int .i64 (hiW P)) := hk31 _ _ _ (xp0)
    replace xp1 : w31.cell? ⟨Bp, 1, none⟩ = some (.int .u64 (loW P)) := hk31 _ _ _ (xp1)
    replace xa0 : w31.cell? ⟨Ba, 0, none⟩ = some (.int .i64 (hiW C)) := hk31 _ _ _ (xa0)
    replace xa1 : w31.cell? ⟨Ba, 1, none⟩ = some (.int .u64 (loW C)) := hk31 _ _ _ (xa1)
    (try clear rab); have rab : w.heap.size < w31.heap.size := World.block_lt_of_cell? w31 ⟨w.heap.size, 0, none⟩ ra0
    (try clear rbb); have rbb : w.heap.size + 1 < w31.heap.size := World.block_lt_of_cell? w31 ⟨w.heap.size + 1, 0, none⟩ rb0
    (try clear rcb); have rcb : w.heap.size + 1 + 1 < w31.heap.size := World.block_lt_of_cell? w31 ⟨w.heap.size + 1 + 1, 0, none⟩ rc0
    (try clear rdb); have rdb : w.heap.size + 1 + 1 + 1 < w31.heap.size := World.block_lt_of_cell? w31 ⟨w.heap.size + 1 + 1 + 1, 0, none⟩ rd0
    (try clear xpb); have xpb : Bp < w31.heap.size := World.block_lt_of_cell? w31 ⟨Bp, 0, none⟩ xp0
    (try clear xab); have xab : Ba < w31.heap.size := World.block_lt_of_cell? w31 ⟨Ba, 0, none⟩ xa0
    clear hk31 hf31
    go_wp2_with fail
    refine useF w (k8.out _) (by go_grown) ?_; rintro e w32 rfl hB32 hk32 hf32 hs32; clear hs32
    replace raf0 : w32.frozen? ⟨w.heap.size, 0, none⟩ = false := hf32 _ _ (.int .i64 0) (ra0) (raf0)
    replace ra0 : w32.cell? ⟨w.heap.size, 0, none⟩ = some (.int .i64 0) := hk32 _ _ _ (ra0)
    replace raf1 : w32.frozen? ⟨w.heap.size, 1, none⟩ = false := hf32 _ _ (.int .u64 0) (ra1) (raf1)
    replace ra1 : w32.cell? ⟨w.heap.size, 1, none⟩ = some (.int .u64 0) := hk32 _ _ _ (ra1)
    replace rbf0 : w32.frozen? ⟨w.heap.size + 1, 0, none⟩ = false := hf32 _ _ (.int .i64 0) (rb0) (rbf0)
    replace rb0 : w32.cell? ⟨w.heap.size + 1, 0, none⟩ = some (.int .i64 0) := hk32 _ _ _ (rb0)
    replace rbf1 : w32.frozen? ⟨w.heap.size + 1, 1, none⟩ = false := hf32 _ _ (.int .u64 0) (rb1) (rbf1)
    replace rb1 : w32.cell? ⟨w.heap.size + 1, 1, none⟩ = some (.int .u64 0) := hk32 _ _ _ (rb1)
    replace rcf0 : w32.frozen? ⟨w.heap.size + 1 + 1, 0, none⟩ = false := hf32 _ _ (.int .i64 0) (rc0) (rcf0)
    replace rc0 : w32.cell? ⟨w.heap.size + 1 + 1, 0, none⟩ = some (.int .i64 0) := hk32 _ _ _ (rc0)
    replace rcf1 : w32.frozen? ⟨w.heap.size + 1 + 1, 1, none⟩ = false := hf32 _ _ (.int .u64 0) (rc1) (rcf1)
    replace rc1 : w32.cell? ⟨w.heap.size + 1 + 1, 1, none⟩ = some (.int .u64 0) := hk32 _ _ _ (rc1)
    replace rdf0 : w32.frozen? ⟨w.heap.size + 1 + 1 + 1, 0, none⟩ = false := hf32 _ _ (.int .i64 0) (rd0) (rdf0)
    replace rd0 : w32.cell? ⟨w.heap.size + 1 + 1 + 1, 0, none⟩ = some (.int .i64 0) := hk32 _ _ _ (rd0)
    replace rdf1 : w32.frozen? ⟨w.heap.size + 1 + 1 + 1, 1, none⟩ = false := hf32 _ _ (.int .u64 0) (rd1) (rdf1)
    replace rd1 : w32.cell? ⟨w.heap.size + 1 + 1 + 1, 1, none⟩ = some (.int .u64 0) := hk32 _ _ _ (rd1)
    replace xp0 : w32.cell? ⟨Bp, 0, none⟩ = some (.int .i64 (hiW P)) := hk32 _ _ _ (xp0)
    replace xp1 : w32.cell? ⟨Bp, 1, none⟩ = some (.int .u64 (loW P)) := hk32 _ _ _ (xp1)
    replace xa0 : w32.cell? ⟨Ba, 0, none⟩ = some (.int .i64 (hiW C)) := hk32 _ _ _ (xa0)
    replace xa1 : w32.cell? ⟨Ba, 1, none⟩ = some (.int .u64 (loW C)) := hk32 _ _ _ (xa1)
    (try clear rab); have rab : w.heap.size < w32.heap.size := World.block_lt_of_cell? w32 ⟨w.heap.size, 0, none⟩ ra0
    (try clear rbb); have rbb : w.heap.size + 1 < w32.heap.size := World.block_lt_of_cell? w32 ⟨w.heap.size + 1, 0, none⟩ rb0
    (try clear rcb); have rcb : w.heap.size + 1 + 1 < w32.heap.size := World.block_lt_of_cell? w32 ⟨w.heap.size + 1 + 1, 0, none⟩ rc0
    (try clear rdb); have rdb : w.heap.size + 1 + 1 + 1 < w32.heap.size := World.block_lt_of_cell? w32 ⟨w.heap.size + 1 + 1 + 1, 0, none⟩ rd0
    (try clear xpb); have xpb : Bp < w32.heap.size := World.block_lt_of_cell? w32 ⟨Bp, 0, none⟩ xp0
    (try clear xab); have xab : Ba < w32.heap.size := World.block_lt_of_cell? w32 ⟨Ba, 0, none⟩ xa0
    clear hk32 hf32
    go_wp2_with fail
    have hBx : Below w.heap.size w (w32.alloc (.cells #[.int .i64 (hiW B), .int .u64 (loW B)] 78)) := by go_grown
    have xb0 : (w32.alloc (.cells #[.int .i64 (hiW B), .int .u64 (loW B)] 78)).cell? ⟨w32.heap.size, 0, none⟩ = some (.int .i64 (hiW B)) := by simp [go_sem]
    have xb1 : (w32.alloc (.cells #[.int .i64 (hiW B), .int .u64 (loW B)] 78)).cell? ⟨w32.heap.size, 1, none⟩ = some (.int .u64 (loW B)) := by simp [go_sem]
    replace raf0 := keepAF (.cells #[.int .i64 (hiW B), .int .u64 (loW B)] 78) ra0 raf0
    replace raf1 := keepAF (.cells #[.int .i64 (hiW B), .int .u64 (loW B)] 78) ra1 raf1
    replace rbf0 := keepAF (.cells #[.int .i64 (hiW B), .int .u64 (loW B)] 78) rb0 rbf0
    replace rbf1 := keepAF (.cells #[.int .i64 (hiW B), .int .u64 (loW B)] 78) rb1 rbf1
    replace rcf0 := keepAF (.cells #[.int .i64 (hiW B), .int .u64 (loW B)] 78) rc0 rcf0
    replace rcf1 := keepAF (.cells #[.int .i64 (hiW B), .int .u64 (loW B)] 78) rc1 rcf1
    replace rdf0 := keepAF (.cells #[.int .i64 (hiW B), .int .u64 (loW B)] 78) rd0 rdf0
    replace rdf1 := keepAF (.cells #[.int .i64 (hiW B), .int .u64 (loW B)] 78) rd1 rdf1
    replace ra0 := keepA (.cells #[.int .i64 (hiW B), .int .u64 (loW B)] 78) ra0
    replace ra1 := keepA (.cells #[.int .i64 (hiW B), .int .u64 (loW B)] 78) ra1
    replace rb0 := keepA (.cells #[.int .i64 (hiW B), .int .u64 (loW B)] 78) rb0
    replace rb1 := keepA (.cells #[.int .i64 (hiW B), .int .u64 (loW B)] 78) rb1
    replace rc0 := keepA (.cells #[.int .i64 (hiW B), .int .u64 (loW B)] 78) rc0
    replace rc1 := keepA (.cells #[.int .i64 (hiW B), .int .u64 (loW B)] 78) rc1
    replace rd0 := keepA (.cells #[.int .i64 (hiW B), .int .u64 (loW B)] 78) rd0
    replace rd1 := keepA (.cells #[.int .i64 (hiW B), .int .u64 (loW B)] 78) rd1
    replace xp0 := keepA (.cells #[.int .i64 (hiW B), .int .u64 (loW B)] 78) xp0
    replace xp1 := keepA (.cells #[.int .i64 (hiW B), .int .u64 (loW B)] 78) xp1
    replace xa0 := keepA (.cells #[.int .i64 (hiW B), .int .u64 (loW B)] 78) xa0
    replace xa1 := keepA (.cells #[.int .i64 (hiW B), .int .u64 (loW B)] 78) xa1
    have hbx : Ba < w32.heap.size := xab
    generalize (w32.alloc (.cells #[.int .i64 (hiW B), .int .u64 (loW B)] 78)) = W5 at *
    generalize w32.heap.size = Bb at *
    refine wp_region_held_drew (S := (fun w' => w'.cell? ⟨Bp, 0, none⟩ = some (.int .i64 (hiW P)) ∧ w'.cell? ⟨Bp, 1, none⟩ = some (.int .u64 (loW P)) ∧ w'.cell? ⟨Ba, 0, none⟩ = some (.int .i64 (hiW C)) ∧ w'.cell? ⟨Ba, 1, none⟩ = some (.int .u64 (loW C)) ∧ w'.cell? ⟨Bb, 0, none⟩ = some (.int .i64 (hiW B)) ∧ w'.cell? ⟨Bb, 1, none⟩ = some (.int .u64 (loW B)))) (by kernel_rfl) (by (try dsimp only); simp only [World.cell?_drew, World.frozen?_drew]; exact ⟨xp0, xp1, xa0, xa1, xb0, xb1⟩) (fun hHeld => ?_)
    have hBq0 : Below w.heap.size w W5.drew := by go_grown
    (try dsimp only at hHeld)
    clear xp0 xp1 xa0 xa1 xb0 xb1
    replace ra0 : W5.drew.cell? ⟨w.heap.size, 0, none⟩ = some (.int .i64 0) := by rw [World.cell?_drew]; exact ra0
    replace raf0 : W5.drew.frozen? ⟨w.heap.size, 0, none⟩ = false := by rw [World.frozen?_drew]; exact raf0
    replace ra1 : W5.drew.cell? ⟨w.heap.size, 1, none⟩ = some (.int .u64 0) := by rw [World.cell?_drew]; exact ra1
    replace raf1 : W5.drew.frozen? ⟨w.heap.size, 1, none⟩ = false := by rw [World.frozen?_drew]; exact raf1
    replace rb0 : W5.drew.cell? ⟨w.heap.size + 1, 0, none⟩ = some (.int .i64 0) := by rw [World.cell?_drew]; exact rb0
    replace rbf0 : W5.drew.frozen? ⟨w.heap.size + 1, 0, none⟩ = false := by rw [World.frozen?_drew]; exact rbf0
    replace rb1 : W5.drew.cell? ⟨w.heap.size + 1, 1, none⟩ = some (.int .u64 0) := by rw [World.cell?_drew]; exact rb1
    replace rbf1 : W5.drew.frozen? ⟨w.heap.size + 1, 1, none⟩ = false := by rw [World.frozen?_drew]; exact rbf1
    replace rc0 : W5.drew.cell? ⟨w.heap.size + 1 + 1, 0, none⟩ = some (.int .i64 0) := by rw [World.cell?_drew]; exact rc0
    replace rcf0 : W5.drew.frozen? ⟨w.heap.size + 1 + 1, 0, none⟩ = false := by rw [World.frozen?_drew]; exact rcf0
    replace rc1 : W5.drew.cell? ⟨w.heap.size + 1 + 1, 1, none⟩ = some (.int .u64 0) := by rw [World.cell?_drew]; exact rc1
    replace rcf1 : W5.drew.frozen? ⟨w.heap.size + 1 + 1, 1, none⟩ = false := by rw [World.frozen?_drew]; exact rcf1
    replace rd0 : W5.drew.cell? ⟨w.heap.size + 1 + 1 + 1, 0, none⟩ = some (.int .i64 0) := by rw [World.cell?_drew]; exact rd0
    replace rdf0 : W5.drew.frozen? ⟨w.heap.size + 1 + 1 + 1, 0, none⟩ = false := by rw [World.frozen?_drew]; exact rdf0
    replace rd1 : W5.drew.cell? ⟨w.heap.size + 1 + 1 + 1, 1, none⟩ = some (.int .u64 0) := by rw [World.cell?_drew]; exact rd1
    replace rdf1 : W5.drew.frozen? ⟨w.heap.size + 1 + 1 + 1, 1, none⟩ = false := by rw [World.frozen?_drew]; exact rdf1
    generalize W5.drew = wq0 at *
    have hzq0 : w.heap.size ≤ wq0.heap.size := hBq0.size
    (refine wpAnyH_take (i := 0) (oi := ⟨some 26, _, _, _, _, none⟩) (v := ?_) rfl (by kernel_rfl) (by kernel_rfl) (by kernel_rfl) (fun _ _ _ h => h) (Or.inl ⟨by rfl, ?_⟩) hHeld ?_; rotate_left; (· (intro w9 hSw; (try dsimp only at hSw); go_simp; (try with_reducible rfl))))
    (try simp only [Act.put, List.setIfInBounds_toArray, List.set_cons_zero, List.set_cons_succ])
    (refine wpAnyH_take (i := 1) (oi := ⟨some 27, _, _, _, _, none⟩) (v := ?_) rfl (by kernel_rfl) (by kernel_rfl) (by kernel_rfl) (fun _ _ _ h => h) (Or.inl ⟨by rfl, ?_⟩) hHeld ?_; rotate_left; (· (intro w9 hSw; (try dsimp only at hSw); go_simp; (try with_reducible rfl))))
    (try simp only [Act.put, List.setIfInBounds_toArray, List.set_cons_zero, List.set_cons_succ])
    (refine wpAnyH_take (i := 3) (oi := ⟨some 29, _, _, _, _, none⟩) (v := ?_) rfl (by kernel_rfl) (by kernel_rfl) (by kernel_rfl) (fun _ _ _ h => h) (Or.inl ⟨by rfl, ?_⟩) hHeld ?_; rotate_left; (· (intro w9 hSw; (try dsimp only at hSw); go_simp; (try with_reducible rfl))))
    (try simp only [Act.put, List.setIfInBounds_toArray, List.set_cons_zero, List.set_cons_succ])
    (refine wpAnyH_take (i := 4) (oi := ⟨some 30, _, _, _, _, none⟩) (v := ?_) rfl (by kernel_rfl) (by kernel_rfl) (by kernel_rfl) (fun _ _ _ h => h) (Or.inl ⟨by rfl, ?_⟩) hHeld ?_; rotate_left; (· (intro w9 hSw; (try dsimp only at hSw); go_simp; (try with_reducible rfl))))
    (try simp only [Act.put, List.setIfInBounds_toArray, List.set_cons_zero, List.set_cons_succ])
    (refine wpAnyH_take (i := 6) (oi := ⟨some 32, _, _, _, _, none⟩) (v := ?_) rfl (by kernel_rfl) (by kernel_rfl) (by kernel_rfl) (fun _ _ _ h => h) (Or.inl ⟨by rfl, ?_⟩) hHeld ?_; rotate_left; (· (intro w9 hSw; (try dsimp only at hSw); go_simp; (try with_reducible rfl))))
    (try simp only [Act.put, List.setIfInBounds_toArray, List.set_cons_zero, List.set_cons_succ])
    (refine wpAnyH_take (i := 7) (oi := ⟨some 33, _, _, _, _, none⟩) (v := ?_) rfl (by kernel_rfl) (by kernel_rfl) (by kernel_rfl) (fun _ _ _ h => h) (Or.inl ⟨by rfl, ?_⟩) hHeld ?_; rotate_left; (· (intro w9 hSw; (try dsimp only at hSw); go_simp; (try with_reducible rfl))))
    (try simp only [Act.put, List.setIfInBounds_toArray, List.set_cons_zero, List.set_cons_succ])
    (refine wpAnyH_take (i := 9) (oi := ⟨some 35, _, _, _, _, none⟩) (v := ?_) rfl (by kernel_rfl) (by kernel_rfl) (by kernel_rfl) (fun _ _ _ h => h) (Or.inl ⟨by rfl, ?_⟩) hHeld ?_; rotate_left; (· (intro w9 hSw; (try dsimp only at hSw); go_simp; (try with_reducible rfl))))
    (try simp only [Act.put, List.setIfInBounds_toArray, List.set_cons_zero, List.set_cons_succ])
    (refine wpAnyH_take (i := 10) (oi := ⟨some 36, _, _, _, _, none⟩) (v := ?_) rfl (by kernel_rfl) (by kernel_rfl) (by kernel_rfl) (fun _ _ _ h => h) (Or.inl ⟨by rfl, ?_⟩) hHeld ?_; rotate_left; (· (intro w9 hSw; (try dsimp only at hSw); go_simp; (try with_reducible rfl))))
    (try simp only [Act.put, List.setIfInBounds_toArray, List.set_cons_zero, List.set_cons_succ])
    refine wpAnyH_ready (rs := [2]) (by kernel_rfl) (by simp) ?_
    refine AllReadyH.cons (o := ⟨some 28, _, _, _, _, none⟩) rfl (fun K hK => ?_) (AllReadyH.nil)
    go_simp
    (go_at_call 100; refine useF w ((by first | (with_reducible exact q1.out _) | (with_reducible exact q3.out _))) (by go_grown) ?_; rintro e wq1 rfl hBq1 hkq1 hfq1 hsq1)
    have hOld := hHeld; clear hHeld; refine hK.out _ _ ?_ (fun hHeld => ?_)
    · exact ⟨hkq1 _ _ _ (hOld.1), hkq1 _ _ _ (hOld.2.1), hkq1 _ _ _ (hOld.2.2.1), hkq1 _ _ _ (hOld.2.2.2.1), hkq1 _ _ _ (hOld.2.2.2.2.1), hkq1 _ _ _ (hOld.2.2.2.2.2)⟩
    clear hK K hOld
    replace raf0 := hfq1 _ _ _ ra0 raf0
    replace ra0 := hkq1 _ _ _ ra0
    replace raf1 := hfq1 _ _ _ ra1 raf1
    replace ra1 := hkq1 _ _ _ ra1
    replace rbf0 := hfq1 _ _ _ rb0 rbf0
    replace rb0 := hkq1 _ _ _ rb0
    replace rbf1 := hfq1 _ _ _ rb1 rbf1
    replace rb1 := hkq1 _ _ _ rb1
    replace rcf0 := hfq1 _ _ _ rc0 rcf0
    replace rc0 := hkq1 _ _ _ rc0
    replace rcf1 := hfq1 _ _ _ rc1 rcf1
    replace rc1 := hkq1 _ _ _ rc1
    replace rdf0 := hfq1 _ _ _ rd0 rdf0
    replace rd0 := hkq1 _ _ _ rd0
    replace rdf1 := hfq1 _ _ _ rd1 rdf1
    replace rd1 := hkq1 _ _ _ rd1
    clear hkq1 hfq1 hsq1
    have hzq1 : w.heap.size ≤ wq1.heap.size := hBq1.size
    (try simp only [Act.put, List.setIfInBounds_toArray, List.set_cons_zero, List.set_cons_succ])
    refine wpAnyH_ready (rs := [5]) (by kernel_rfl) (by simp) ?_
    refine AllReadyH.cons (o := ⟨some 31, _, _, _, _, none⟩) rfl (fun K hK => ?_) (AllReadyH.nil)
    go_simp
    (go_at_call 127; refine useF w ((by first | (with_reducible exact q2.out _) | (with_reducible exact q4.out _))) (by go_grown) ?_; rintro e wq2 rfl hBq2 hkq2 hfq2 hsq2)
    have hOld := hHeld; clear hHeld; refine hK.out _ _ ?_ (fun hHeld => ?_)
    · exact ⟨hkq2 _ _ _ (hOld.1), hkq2 _ _ _ (hOld.2.1), hkq2 _ _ _ (hOld.2.2.1), hkq2 _ _ _ (hOld.2.2.2.1), hkq2 _ _ _ (hOld.2.2.2.2.1), hkq2 _ _ _ (hOld.2.2.2.2.2)⟩
    clear hK K hOld
    replace raf0 := hfq2 _ _ _ ra0 raf0
    replace ra0 := hkq2 _ _ _ ra0
    replace raf1 := hfq2 _ _ _ ra1 raf1
    replace ra1 := hkq2 _ _ _ ra1
    replace rbf0 := hfq2 _ _ _ rb0 rbf0
    replace rb0 := hkq2 _ _ _ rb0
    replace rbf1 := hfq2 _ _ _ rb1 rbf1
    replace rb1 := hkq2 _ _ _ rb1
    replace rcf0 := hfq2 _ _ _ rc0 rcf0
    replace rc0 := hkq2 _ _ _ rc0
    replace rcf1 := hfq2 _ _ _ rc1 rcf1
    replace rc1 := hkq2 _ _ _ rc1
    replace rdf0 := hfq2 _ _ _ rd0 rdf0
    replace rd0 := hkq2 _ _ _ rd0
    replace rdf1 := hfq2 _ _ _ rd1 rdf1
    replace rd1 := hkq2 _ _ _ rd1
    clear hkq2 hfq2 hsq2
    have hzq2 : w.heap.size ≤ wq2.heap.size := hBq2.size
    (try simp only [Act.put, List.setIfInBounds_toArray, List.set_cons_zero, List.set_cons_succ])
    refine wpAnyH_ready (rs := [8]) (by kernel_rfl) (by simp) ?_
    refine AllReadyH.cons (o := ⟨some 34, _, _, _, _, none⟩) rfl (fun K hK => ?_) (AllReadyH.nil)
    go_simp
    (go_at_call 100; refine useF w ((by first | (with_reducible exact q1.out _) | (with_reducible exact q3.out _))) (by go_grown) ?_; rintro e wq3 rfl hBq3 hkq3 hfq3 hsq3)
    have hOld := hHeld; clear hHeld; refine hK.out _ _ ?_ (fun hHeld => ?_)
    · exact ⟨hkq3 _ _ _ (hOld.1), hkq3 _ _ _ (hOld.2.1), hkq3 _ _ _ (hOld.2.2.1), hkq3 _ _ _ (hOld.2.2.2.1), hkq3 _ _ _ (hOld.2.2.2.2.1), hkq3 _ _ _ (hOld.2.2.2.2.2)⟩
    clear hK K hOld
    replace raf0 := hfq3 _ _ _ ra0 raf0
    replace ra0 := hkq3 _ _ _ ra0
    replace raf1 := hfq3 _ _ _ ra1 raf1
    replace ra1 := hkq3 _ _ _ ra1
    replace rbf0 := hfq3 _ _ _ rb0 rbf0
    replace rb0 := hkq3 _ _ _ rb0
    replace rbf1 := hfq3 _ _ _ rb1 rbf1
    replace rb1 := hkq3 _ _ _ rb1
    replace rcf0 := hfq3 _ _ _ rc0 rcf0
    replace rc0 := hkq3 _ _ _ rc0
    replace rcf1 := hfq3 _ _ _ rc1 rcf1
    replace rc1 := hkq3 _ _ _ rc1
    replace rdf0 := hfq3 _ _ _ rd0 rdf0
    replace rd0 := hkq3 _ _ _ rd0
    replace rdf1 := hfq3 _ _ _ rd1 rdf1
    replace rd1 := hkq3 _ _ _ rd1
    clear hkq3 hfq3 hsq3
    have hzq3 : w.heap.size ≤ wq3.heap.size := hBq3.size
    (try simp only [Act.put, List.setIfInBounds_toArray, List.set_cons_zero, List.set_cons_succ])
    refine wpAnyH_ready (rs := [11]) (by kernel_rfl) (by simp) ?_
    refine AllReadyH.cons (o := ⟨some 37, _, _, _, _, none⟩) rfl (fun K hK => ?_) (AllReadyH.nil)
    go_simp
    (go_at_call 127; refine useF w ((by first | (with_reducible exact q2.out _) | (with_reducible exact q4.out _))) (by go_grown) ?_; rintro e wq4 rfl hBq4 hkq4 hfq4 hsq4)
    have hOld := hHeld; clear hHeld; refine hK.out _ _ ?_ (fun hHeld => ?_)
    · exact ⟨hkq4 _ _ _ (hOld.1), hkq4 _ _ _ (hOld.2.1), hkq4 _ _ _ (hOld.2.2.1), hkq4 _ _ _ (hOld.2.2.2.1), hkq4 _ _ _ (hOld.2.2.2.2.1), hkq4 _ _ _ (hOld.2.2.2.2.2)⟩
    clear hK K hOld
    replace raf0 := hfq4 _ _ _ ra0 raf0
    replace ra0 := hkq4 _ _ _ ra0
    replace raf1 := hfq4 _ _ _ ra1 raf1
    replace ra1 := hkq4 _ _ _ ra1
    replace rbf0 := hfq4 _ _ _ rb0 rbf0
    replace rb0 := hkq4 _ _ _ rb0
    replace rbf1 := hfq4 _ _ _ rb1 rbf1
    replace rb1 := hkq4 _ _ _ rb1
    replace rcf0 := hfq4 _ _ _ rc0 rcf0
    replace rc0 := hkq4 _ _ _ rc0
    replace rcf1 := hfq4 _ _ _ rc1 rcf1
    replace rc1 := hkq4 _ _ _ rc1
    replace rdf0 := hfq4 _ _ _ rd0 rdf0
    replace rd0 := hkq4 _ _ _ rd0
    replace rdf1 := hfq4 _ _ _ rd1 rdf1
    replace rd1 := hkq4 _ _ _ rd1
    clear hkq4 hfq4 hsq4
    have hzq4 : w.heap.size ≤ wq4.heap.size := hBq4.size
    (try simp only [Act.put, List.setIfInBounds_toArray, List.set_cons_zero, List.set_cons_succ])
    refine wpAnyH_ready (rs := [12]) (by kernel_rfl) (by simp) ?_
    refine AllReadyH.cons (o := ⟨none, _, _, _, _, none⟩) rfl (fun K hK => ?_) (AllReadyH.nil)
    (try dsimp only at hHeld)
    have hBq5 : Below w.heap.size w ((wq4.setCell ⟨w.heap.size, 0, none⟩ (.int .i64 (hiW c1))).setCell ⟨w.heap.size, 1, none⟩ (.int .u64 (loW c1))) := by go_grown
    have hOld := hHeld; clear hHeld; go_simp; refine hK.out _ _ ?_ (fun hHeld => ?_)
    · exact ⟨two_other (hOld.1) (by omega), two_other (hOld.2.1) (by omega), two_other (hOld.2.2.1) (by omega), two_other (hOld.2.2.2.1) (by omega), two_other (hOld.2.2.2.2.1) (by omega), two_other (hOld.2.2.2.2.2) (by omega)⟩
    clear hK K hOld
    (try dsimp only at hHeld)
    replace raf0 := two_fz (b := w.heap.size) (x := .int .i64 (hiW c1)) (y := .int .u64 (loW c1)) raf0
    replace ra0 := two_0 (x := .int .i64 (hiW c1)) (y := .int .u64 (loW c1)) ra0
    replace raf1 := two_fz (b := w.heap.size) (x := .int .i64 (hiW c1)) (y := .int .u64 (loW c1)) raf1
    replace ra1 := two_1 (x := .int .i64 (hiW c1)) (y := .int .u64 (loW c1)) ra1
    replace rbf0 := two_fz (b := w.heap.size) (x := .int .i64 (hiW c1)) (y := .int .u64 (loW c1)) rbf0
    replace rb0 := two_other (b := w.heap.size) (x := .int .i64 (hiW c1)) (y := .int .u64 (loW c1)) rb0 (by omega)
    replace rbf1 := two_fz (b := w.heap.size) (x := .int .i64 (hiW c1)) (y := .int .u64 (loW c1)) rbf1
    replace rb1 := two_other (b := w.heap.size) (x := .int .i64 (hiW c1)) (y := .int .u64 (loW c1)) rb1 (by omega)
    replace rcf0 := two_fz (b := w.heap.size) (x := .int .i64 (hiW c1)) (y := .int .u64 (loW c1)) rcf0
    replace rc0 := two_other (b := w.heap.size) (x := .int .i64 (hiW c1)) (y := .int .u64 (loW c1)) rc0 (by omega)
    replace rcf1 := two_fz (b := w.heap.size) (x := .int .i64 (hiW c1)) (y := .int .u64 (loW c1)) rcf1
    replace rc1 := two_other (b := w.heap.size) (x := .int .i64 (hiW c1)) (y := .int .u64 (loW c1)) rc1 (by omega)
    replace rdf0 := two_fz (b := w.heap.size) (x := .int .i64 (hiW c1)) (y := .int .u64 (loW c1)) rdf0
    replace rd0 := two_other (b := w.heap.size) (x := .int .i64 (hiW c1)) (y := .int .u64 (loW c1)) rd0 (by omega)
    replace rdf1 := two_fz (b := w.heap.size) (x := .int .i64 (hiW c1)) (y := .int .u64 (loW c1)) rdf1
    replace rd1 := two_other (b := w.heap.size) (x := .int .i64 (hiW c1)) (y := .int .u64 (loW c1)) rd1 (by omega)
    generalize ((wq4.setCell ⟨w.heap.size, 0, none⟩ (.int .i64 (hiW c1))).setCell ⟨w.heap.size, 1, none⟩ (.int .u64 (loW c1))) = wq5 at *
    have hzq5 : w.heap.size ≤ wq5.heap.size := hBq5.size
    (try simp only [Act.put, List.setIfInBounds_toArray, List.set_cons_zero, List.set_cons_succ])
    refine wpAnyH_ready (rs := [13]) (by kernel_rfl) (by simp) ?_
    refine AllReadyH.cons (o := ⟨none, _, _, _, _, none⟩) rfl (fun K hK => ?_) (AllReadyH.nil)
    (try dsimp only at hHeld)
    have hBq6 : Below w.heap.size w ((wq5.setCell ⟨w.heap.size + 1, 0, none⟩ (.int .i64 (hiW c2))).setCell ⟨w.heap.size + 1, 1, none⟩ (.int .u64 (loW c2))) := by go_grown
    have hOld := hHeld; clear hHeld; go_simp; refine hK.out _ _ ?_ (fun hHeld => ?_)
    · exact ⟨two_other (hOld.1) (by omega), two_other (hOld.2.1) (by omega), two_other (hOld.2.2.1) (by omega), two_other (hOld.2.2.2.1) (by omega), two_other (hOld.2.2.2.2.1) (by omega), two_other (hOld.2.2.2.2.2) (by omega)⟩
    clear hK K hOld
    (try dsimp only at hHeld)
    replace raf0 := two_fz (b := w.heap.size + 1) (x := .int .i64 (hiW c2)) (y := .int .u64 (loW c2)) raf0
    replace ra0 := two_other (b := w.heap.size + 1) (x := .int .i64 (hiW c2)) (y := .int .u64 (loW c2)) ra0 (by omega)
    replace raf1 := two_fz (b := w.heap.size + 1) (x := .int .i64 (hiW c2)) (y := .int .u64 (loW c2)) raf1
    replace ra1 := two_other (b := w.heap.size + 1) (x := .int .i64 (hiW c2)) (y := .int .u64 (loW c2)) ra1 (by omega)
    replace rbf0 := two_fz (b := w.heap.size + 1) (x := .int .i64 (hiW c2)) (y := .int .u64 (loW c2)) rbf0
    replace rb0 := two_0 (x := .int .i64 (hiW c2)) (y := .int .u64 (loW c2)) rb0
    replace rbf1 := two_fz (b := w.heap.size + 1) (x := .int .i64 (hiW c2)) (y := .int .u64 (loW c2)) rbf1
    replace rb1 := two_1 (x := .int .i64 (hiW c2)) (y := .int .u64 (loW c2)) rb1
    replace rcf0 := two_fz (b := w.heap.size + 1) (x := .int .i64 (hiW c2)) (y := .int .u64 (loW c2)) rcf0
    replace rc0 := two_other (b := w.heap.size + 1) (x := .int .i64 (hiW c2)) (y := .int .u64 (loW c2)) rc0 (by omega)
    replace rcf1 := two_fz (b := w.heap.size + 1) (x := .int .i64 (hiW c2)) (y := .int .u64 (loW c2)) rcf1
    replace rc1 := two_other (b := w.heap.size + 1) (x := .int .i64 (hiW c2)) (y := .int .u64 (loW c2)) rc1 (by omega)
    replace rdf0 := two_fz (b := w.heap.size + 1) (x := .int .i64 (hiW c2)) (y := .int .u64 (loW c2)) rdf0
    replace rd0 := two_other (b := w.heap.size + 1) (x := .int .i64 (hiW c2)) (y := .int .u64 (loW c2)) rd0 (by omega)
    replace rdf1 := two_fz (b := w.heap.size + 1) (x := .int .i64 (hiW c2)) (y := .int .u64 (loW c2)) rdf1
    replace rd1 := two_other (b := w.heap.size + 1) (x := .int .i64 (hiW c2)) (y := .int .u64 (loW c2)) rd1 (by omega)
    generalize ((wq5.setCell ⟨w.heap.size + 1, 0, none⟩ (.int .i64 (hiW c2))).setCell ⟨w.heap.size + 1, 1, none⟩ (.int .u64 (loW c2))) = wq6 at *
    have hzq6 : w.heap.size ≤ wq6.heap.size := hBq6.size
    (try simp only [Act.put, List.setIfInBounds_toArray, List.set_cons_zero, List.set_cons_succ])
    refine wpAnyH_ready (rs := [14]) (by kernel_rfl) (by simp) ?_
    refine AllReadyH.cons (o := ⟨none, _, _, _, _, none⟩) rfl (fun K hK => ?_) (AllReadyH.nil)
    (try dsimp only at hHeld)
    have hBq7 : Below w.heap.size w ((wq6.setCell ⟨w.heap.size + 1 + 1, 0, none⟩ (.int .i64 (hiW s1))).setCell ⟨w.heap.size + 1 + 1, 1, none⟩ (.int .u64 (loW s1))) := by go_grown
    have hOld := hHeld; clear hHeld; go_simp; refine hK.out _ _ ?_ (fun hHeld => ?_)
    · exact ⟨two_other (hOld.1) (by omega), two_other (hOld.2.1) (by omega), two_other (hOld.2.2.1) (by omega), two_other (hOld.2.2.2.1) (by omega), two_other (hOld.2.2.2.2.1) (by omega), two_other (hOld.2.2.2.2.2) (by omega)⟩
    clear hK K hOld
    (try dsimp only at hHeld)
    replace raf0 := two_fz (b := w.heap.size + 1 + 1) (x := .int .i64 (hiW s1)) (y := .int .u64 (loW s1)) raf0
    replace ra0 := two_other (b := w.heap.size + 1 + 1) (x := .int .i64 (hiW s1)) (y := .int .u64 (loW s1)) ra0 (by omega)
    replace raf1 := two_fz (b := w.heap.size + 1 + 1) (x := .int .i64 (hiW s1)) (y := .int .u64 (loW s1)) raf1
    replace ra1 := two_other (b := w.heap.size + 1 + 1) (x := .int .i64 (hiW s1)) (y := .int .u64 (loW s1)) ra1 (by omega)
    replace rbf0 := two_fz (b := w.heap.size + 1 + 1) (x := .int .i64 (hiW s1)) (y := .int .u64 (loW s1)) rbf0
    replace rb0 := two_other (b := w.heap.size + 1 + 1) (x := .int .i64 (hiW s1)) (y := .int .u64 (loW s1)) rb0 (by omega)
    replace rbf1 := two_fz (b := w.heap.size + 1 + 1) (x := .int .i64 (hiW s1)) (y := .int .u64 (loW s1)) rbf1
    replace rb1 := two_other (b := w.heap.size + 1 + 1) (x := .int .i64 (hiW s1)) (y := .int .u64 (loW s1)) rb1 (by omega)
    replace rcf0 := two_fz (b := w.heap.size + 1 + 1) (x := .int .i64 (hiW s1)) (y := .int .u64 (loW s1)) rcf0
    replace rc0 := two_0 (x := .int .i64 (hiW s1)) (y := .int .u64 (loW s1)) rc0
    replace rcf1 := two_fz (b := w.heap.size + 1 + 1) (x := .int .i64 (hiW s1)) (y := .int .u64 (loW s1)) rcf1
    replace rc1 := two_1 (x := .int .i64 (hiW s1)) (y := .int .u64 (loW s1)) rc1
    replace rdf0 := two_fz (b := w.heap.size + 1 + 1) (x := .int .i64 (hiW s1)) (y := .int .u64 (loW s1)) rdf0
    replace rd0 := two_other (b := w.heap.size + 1 + 1) (x := .int .i64 (hiW s1)) (y := .int .u64 (loW s1)) rd0 (by omega)
    replace rdf1 := two_fz (b := w.heap.size + 1 + 1) (x := .int .i64 (hiW s1)) (y := .int .u64 (loW s1)) rdf1
    replace rd1 := two_other (b := w.heap.size + 1 + 1) (x := .int .i64 (hiW s1)) (y := .int .u64 (loW s1)) rd1 (by omega)
    generalize ((wq6.setCell ⟨w.heap.size + 1 + 1, 0, none⟩ (.int .i64 (hiW s1))).setCell ⟨w.heap.size + 1 + 1, 1, none⟩ (.int .u64 (loW s1))) = wq7 at *
    have hzq7 : w.heap.size ≤ wq7.heap.size := hBq7.size
    (try simp only [Act.put, List.setIfInBounds_toArray, List.set_cons_zero, List.set_cons_succ])
    refine wpAnyH_ready (rs := [15]) (by kernel_rfl) (by simp) ?_
    refine AllReadyH.cons (o := ⟨none, _, _, _, _, none⟩) rfl (fun K hK => ?_) (AllReadyH.nil)
    (try dsimp only at hHeld)
    have hBq8 : Below w.heap.size w ((wq7.setCell ⟨w.heap.size + 1 + 1 + 1, 0, none⟩ (.int .i64 (hiW s2))).setCell ⟨w.heap.size + 1 + 1 + 1, 1, none⟩ (.int .u64 (loW s2))) := by go_grown
    have hOld := hHeld; clear hHeld; go_simp; refine hK.out _ _ ?_ (fun hHeld => ?_)
    · exact ⟨two_other (hOld.1) (by omega), two_other (hOld.2.1) (by omega), two_other (hOld.2.2.1) (by omega), two_other (hOld.2.2.2.1) (by omega), two_other (hOld.2.2.2.2.1) (by omega), two_other (hOld.2.2.2.2.2) (by omega)⟩
    clear hK K hOld
    (try dsimp only at hHeld)
    replace raf0 := two_fz (b := w.heap.size + 1 + 1 + 1) (x := .int .i64 (hiW s2)) (y := .int .u64 (loW s2)) raf0
    replace ra0 := two_other (b := w.heap.size + 1 + 1 + 1) (x := .int .i64 (hiW s2)) (y := .int .u64 (loW s2)) ra0 (by omega)
    replace raf1 := two_fz (b := w.heap.size + 1 + 1 + 1) (x := .int .i64 (hiW s2)) (y := .int .u64 (loW s2)) raf1
    replace ra1 := two_other (b := w.heap.size + 1 + 1 + 1) (x := .int .i64 (hiW s2)) (y := .int .u64 (loW s2)) ra1 (by omega)
    replace rbf0 := two_fz (b := w.heap.size + 1 + 1 + 1) (x := .int .i64 (hiW s2)) (y := .int .u64 (loW s2)) rbf0
    replace rb0 := two_other (b := w.heap.size + 1 + 1 + 1) (x := .int .i64 (hiW s2)) (y := .int .u64 (loW s2)) rb0 (by omega)
    replace rbf1 := two_fz (b := w.heap.size + 1 + 1 + 1) (x := .int .i64 (hiW s2)) (y := .int .u64 (loW s2)) rbf1
    replace rb1 := two_other (b := w.heap.size + 1 + 1 + 1) (x := .int .i64 (hiW s2)) (y := .int .u64 (loW s2)) rb1 (by omega)
    replace rcf0 := two_fz (b := w.heap.size + 1 + 1 + 1) (x := .int .i64 (hiW s2)) (y := .int .u64 (loW s2)) rcf0
    replace rc0 := two_other (b := w.heap.size + 1 + 1 + 1) (x := .int .i64 (hiW s2)) (y := .int .u64 (loW s2)) rc0 (by omega)
    replace rcf1 := two_fz (b := w.heap.size + 1 + 1 + 1) (x := .int .i64 (hiW s2)) (y := .int .u64 (loW s2)) rcf1
    replace rc1 := two_other (b := w.heap.size + 1 + 1 + 1) (x := .int .i64 (hiW s2)) (y := .int .u64 (loW s2)) rc1 (by omega)
    replace rdf0 := two_fz (b := w.heap.size + 1 + 1 + 1) (x := .int .i64 (hiW s2)) (y := .int .u64 (loW s2)) rdf0
    replace rd0 := two_0 (x := .int .i64 (hiW s2)) (y := .int .u64 (loW s2)) rd0
    replace rdf1 := two_fz (b := w.heap.size + 1 + 1 + 1) (x := .int .i64 (hiW s2)) (y := .int .u64 (loW s2)) rdf1
    replace rd1 := two_1 (x := .int .i64 (hiW s2)) (y := .int .u64 (loW s2)) rd1
    generalize ((wq7.setCell ⟨w.heap.size + 1 + 1 + 1, 0, none⟩ (.int .i64 (hiW s2))).setCell ⟨w.heap.size + 1 + 1 + 1, 1, none⟩ (.int .u64 (loW s2))) = wq8 at *
    have hzq8 : w.heap.size ≤ wq8.heap.size := hBq8.size
    (try simp only [Act.put, List.setIfInBounds_toArray, List.set_cons_zero, List.set_cons_succ])
    refine wpAnyH_done (by kernel_rfl) ?_ _
    go_wp2_with fail
    refine' bodyPost_ret (res_4 rfl isA_W isS_W rfl rfl rfl rfl ra0 ra1 rb0 rb1 rc0 rc1 rd0 rd1) rfl ?_
    exact ⟨rfl, by go_grown⟩
end Go.Proofs.Ytjleflfncijnpaa
