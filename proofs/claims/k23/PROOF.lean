import PyProof.Rows.All
import Wide.All
import OpenK.AllK
import Wide.FinOn
import QP_k23
import HandS.Ends
import PySem.Challenge.RW_bastion_k23_logical_operators
set_option Elab.async false
set_option linter.all false
set_option maxRecDepth 100000
set_option maxHeartbeats 4000000
namespace Pf
open PySem PySem.Spec PyProof.Rows L2 Pz
open Evl (Ex)
section
open Eng (pop par PT om pmul lt ltm lup lftP liftN Lg)
variable {w : Nat} {A B X Y : List Nat}
theorem lift_turn (hX : ∀ x ∈ X, x < 2 ^ 900) (hY : ∀ x ∈ Y, x < 2 ^ 900) (hXY : X.length = Y.length) (p t : PT) (ht : sz t) (k : Nat) (hk : k < X.length) :
    sz (lup X Y p t k) ∧ turn (.nm 3) [3, 4] (exB (Γ__law_lifted.at 0) b__law_lifted_1) (.dat (.int (k : Int))) ⟨[.dat (lD w A B X Y), .dat (pT p), .dat (pT t), .any, .any], []⟩ = some (.nx ⟨[.dat (lD w A B X Y), .dat (pT p), .dat (pT (lup X Y p t k)), .any, .any], []⟩) := by
  have hl := letter_run p k
  rw [Eng.lt_bits] at hl
  have s0 : sz (1, 0, 0) := ⟨Nat.two_pow_pos _, Nat.two_pow_pos _⟩
  have s1 : sz (0, X.getD k 0, 0) := ⟨getD_lt hX k, Nat.two_pow_pos _⟩
  have s2 : sz (0, 0, Y.getD k 0) := ⟨Nat.two_pow_pos _, getD_lt hY k⟩
  have ixX := fun μ => ix_nl μ hk
  have ixY := fun μ => ix_nl μ (by omega : k < Y.length)
  have q0 : ∀ t, sz t → Φ__law_times [.dat (pT t), .dat (.tuple [.int 1, .int 0, .int 0])] [] = some (.ret (.dat (pT (pmul t (1, 0, 0)))) []) := fun t h => times_run t (1, 0, 0) h s0
  have q1 : ∀ t, sz t → Φ__law_times [.dat (pT t), .dat (.tuple [.int 0, ni (X.getD k 0), .int 0])] [] = some (.ret (.dat (pT (pmul t (0, X.getD k 0, 0)))) []) := fun t h => times_run t (0, X.getD k 0, 0) h s1
  have q2 : ∀ t, sz t → Φ__law_times [.dat (pT t), .dat (.tuple [.int 0, .int 0, ni (Y.getD k 0)])] [] = some (.ret (.dat (pT (pmul t (0, 0, Y.getD k 0)))) []) := fun t h => times_run t (0, 0, Y.getD k 0) h s2
  have lu : lup X Y p t k = (if p.2.2.testBit k = true then pmul (if p.2.1.testBit k = true then pmul (if (p.2.1.testBit k && p.2.2.testBit k) = true then pmul t (1, 0, 0) else t) (0, X.getD k 0, 0) else (if (p.2.1.testBit k && p.2.2.testBit k) = true then pmul t (1, 0, 0) else t)) (0, 0, Y.getD k 0) else (if p.2.1.testBit k = true then pmul (if (p.2.1.testBit k && p.2.2.testBit k) = true then pmul t (1, 0, 0) else t) (0, X.getD k 0, 0) else (if (p.2.1.testBit k && p.2.2.testBit k) = true then pmul t (1, 0, 0) else t))) := rfl
  generalize lup X Y p t k = u at *
  subst lu
  have b2 : Builtin.bitAnd 2 1 = 0 := by decide +kernel
  have b3 : Builtin.bitAnd 3 1 = 1 := by decide +kernel
  unfold b__law_lifted_1
  generalize hx : p.2.1.testBit k = x at *
  generalize hz : p.2.2.testBit k = z at *
  cases x <;> cases z <;> simp only [Bool.and_self, Bool.and_false, Bool.false_and, if_true, if_false, Bool.false_eq_true]
  · refine ⟨ht, ?_⟩
    change Φ__law_letter _ [] = some (.ret (.dat (.int 0)) []) at hl
    simp (disch := (first | assumption | omega | decide | (simp only [List.length_map, List.length_append, List.length_range, List.length_cons, List.length_nil, List.length_replicate, List.length_set, List.length_take]; omega))) only [ZA, Z49, Z50, List.getElem?_cons_zero, List.getElem?_cons_succ, List.set_cons_zero, List.set_cons_succ, List.nil_append, List.cons_append, List.map_nil, List.map_cons, List.length_nil, List.length_cons, List.length_map, List.length_append, Option.map_some, Option.map_none, Option.bind_some, Option.isSome_some, decide_eq_true_eq, eq_self, wipeV, allDatB, reduceIte, if_true, if_false, Bool.false_eq_true, Nat.le_refl, Nat.zero_le, Nat.reduceAdd, Nat.reduceSub, Nat.reduceLeDiff, List.replicate, Nat.reduceLT, Nat.reduceEqDiff, Int.reduceEq, Int.reduceToNat, Int.reduceAdd, Int.reduceSub, Int.reduceMul, Int.reduceLT, Int.reduceLE, Int.reduceMod, Int.reduceDiv, Bool.not_true, Bool.not_false, Bool.and_true, Bool.and_false, Bool.true_and, Bool.false_and, Bool.true_or, Bool.or_true, Bool.false_or, Bool.or_false, Bool.not_eq_true, decide_true, decide_false, rngM_int, rng2M_int, fs_st, fs_list, fs_lok, fs_enu, fs_zip, fs_rev, alloc_ap, allDat_mp, allDat_ap, bd_mod, bd_div, bd_mul, bd_mull, shl1_c, apK_lst, apK_own, apK_obs, exK_lst, lrngM_int, bin_tt, bin_rep, ixN_nat, tupM_ap, rng0, Int.toNat_natCast, shr_c, Pz.atI_nat, bools_map2, ints_map2, any_id, all_id, clW_tup, clW_ownT, clW_ownF, noRef_ints, noRef_nis, ixN_0, ixN_1, ixN_2, ixN_3, ixN_4, ixN_5, ixN_6, ixN_7, ixN_8, ixN_9, ixN_m1, Pz.sl_str, hl, G__law_lifted__law_letter]
    try rfl
  · refine ⟨pmul_sz ht s2, ?_⟩
    change Φ__law_letter _ [] = some (.ret (.dat (.int 2)) []) at hl
    have := q2 t ht
    simp (disch := (first | assumption | omega | decide | (simp only [List.length_map, List.length_append, List.length_range, List.length_cons, List.length_nil, List.length_replicate, List.length_set, List.length_take]; omega))) only [ZA, Z49, Z50, List.getElem?_cons_zero, List.getElem?_cons_succ, List.set_cons_zero, List.set_cons_succ, List.nil_append, List.cons_append, List.map_nil, List.map_cons, List.length_nil, List.length_cons, List.length_map, List.length_append, Option.map_some, Option.map_none, Option.bind_some, Option.isSome_some, decide_eq_true_eq, eq_self, wipeV, allDatB, reduceIte, if_true, if_false, Bool.false_eq_true, Nat.le_refl, Nat.zero_le, Nat.reduceAdd, Nat.reduceSub, Nat.reduceLeDiff, List.replicate, Nat.reduceLT, Nat.reduceEqDiff, Int.reduceEq, Int.reduceToNat, Int.reduceAdd, Int.reduceSub, Int.reduceMul, Int.reduceLT, Int.reduceLE, Int.reduceMod, Int.reduceDiv, Bool.not_true, Bool.not_false, Bool.and_true, Bool.and_false, Bool.true_and, Bool.false_and, Bool.true_or, Bool.or_true, Bool.false_or, Bool.or_false, Bool.not_eq_true, decide_true, decide_false, rngM_int, rng2M_int, fs_st, fs_list, fs_lok, fs_enu, fs_zip, fs_rev, alloc_ap, allDat_mp, allDat_ap, bd_mod, bd_div, bd_mul, bd_mull, shl1_c, apK_lst, apK_own, apK_obs, exK_lst, lrngM_int, bin_tt, bin_rep, ixN_nat, tupM_ap, rng0, Int.toNat_natCast, shr_c, Pz.atI_nat, bools_map2, ints_map2, any_id, all_id, clW_tup, clW_ownT, clW_ownF, noRef_ints, noRef_nis, ixN_0, ixN_1, ixN_2, ixN_3, ixN_4, ixN_5, ixN_6, ixN_7, ixN_8, ixN_9, ixN_m1, Pz.sl_str, hl, b2, b3, G__law_lifted__law_letter, ixX, ixY, this, G__law_lifted__law_times]
    try rfl
  · refine ⟨pmul_sz ht s1, ?_⟩
    change Φ__law_letter _ [] = some (.ret (.dat (.int 1)) []) at hl
    have := q1 t ht
    simp (disch := (first | assumption | omega | decide | (simp only [List.length_map, List.length_append, List.length_range, List.length_cons, List.length_nil, List.length_replicate, List.length_set, List.length_take]; omega))) only [ZA, Z49, Z50, List.getElem?_cons_zero, List.getElem?_cons_succ, List.set_cons_zero, List.set_cons_succ, List.nil_append, List.cons_append, List.map_nil, List.map_cons, List.length_nil, List.length_cons, List.length_map, List.length_append, Option.map_some, Option.map_none, Option.bind_some, Option.isSome_some, decide_eq_true_eq, eq_self, wipeV, allDatB, reduceIte, if_true, if_false, Bool.false_eq_true, Nat.le_refl, Nat.zero_le, Nat.reduceAdd, Nat.reduceSub, Nat.reduceLeDiff, List.replicate, Nat.reduceLT, Nat.reduceEqDiff, Int.reduceEq, Int.reduceToNat, Int.reduceAdd, Int.reduceSub, Int.reduceMul, Int.reduceLT, Int.reduceLE, Int.reduceMod, Int.reduceDiv, Bool.not_true, Bool.not_false, Bool.and_true, Bool.and_false, Bool.true_and, Bool.false_and, Bool.true_or, Bool.or_true, Bool.false_or, Bool.or_false, Bool.not_eq_true, decide_true, decide_false, rngM_int, rng2M_int, fs_st, fs_list, fs_lok, fs_enu, fs_zip, fs_rev, alloc_ap, allDat_mp, allDat_ap, bd_mod, bd_div, bd_mul, bd_mull, shl1_c, apK_lst, apK_own, apK_obs, exK_lst, lrngM_int, bin_tt, bin_rep, ixN_nat, tupM_ap, rng0, Int.toNat_natCast, shr_c, Pz.atI_nat, bools_map2, ints_map2, any_id, all_id, clW_tup, clW_ownT, clW_ownF, noRef_ints, noRef_nis, ixN_0, ixN_1, ixN_2, ixN_3, ixN_4, ixN_5, ixN_6, ixN_7, ixN_8, ixN_9, ixN_m1, Pz.sl_str, hl, b2, b3, G__law_lifted__law_letter, ixX, ixY, this, G__law_lifted__law_times]
    try rfl
  · refine ⟨pmul_sz (pmul_sz (pmul_sz ht s0) s1) s2, ?_⟩
    change Φ__law_letter _ [] = some (.ret (.dat (.int 3)) []) at hl
    have e1 := q0 t ht
    have e2 := q1 _ (pmul_sz ht s0)
    have e3 := q2 _ (pmul_sz (pmul_sz ht s0) s1)
    simp (disch := (first | assumption | omega | decide | (simp only [List.length_map, List.length_append, List.length_range, List.length_cons, List.length_nil, List.length_replicate, List.length_set, List.length_take]; omega))) only [ZA, Z49, Z50, List.getElem?_cons_zero, List.getElem?_cons_succ, List.set_cons_zero, List.set_cons_succ, List.nil_append, List.cons_append, List.map_nil, List.map_cons, List.length_nil, List.length_cons, List.length_map, List.length_append, Option.map_some, Option.map_none, Option.bind_some, Option.isSome_some, decide_eq_true_eq, eq_self, wipeV, allDatB, reduceIte, if_true, if_false, Bool.false_eq_true, Nat.le_refl, Nat.zero_le, Nat.reduceAdd, Nat.reduceSub, Nat.reduceLeDiff, List.replicate, Nat.reduceLT, Nat.reduceEqDiff, Int.reduceEq, Int.reduceToNat, Int.reduceAdd, Int.reduceSub, Int.reduceMul, Int.reduceLT, Int.reduceLE, Int.reduceMod, Int.reduceDiv, Bool.not_true, Bool.not_false, Bool.and_true, Bool.and_false, Bool.true_and, Bool.false_and, Bool.true_or, Bool.or_true, Bool.false_or, Bool.or_false, Bool.not_eq_true, decide_true, decide_false, rngM_int, rng2M_int, fs_st, fs_list, fs_lok, fs_enu, fs_zip, fs_rev, alloc_ap, allDat_mp, allDat_ap, bd_mod, bd_div, bd_mul, bd_mull, shl1_c, apK_lst, apK_own, apK_obs, exK_lst, lrngM_int, bin_tt, bin_rep, ixN_nat, tupM_ap, rng0, Int.toNat_natCast, shr_c, Pz.atI_nat, bools_map2, ints_map2, any_id, all_id, clW_tup, clW_ownT, clW_ownF, noRef_ints, noRef_nis, ixN_0, ixN_1, ixN_2, ixN_3, ixN_4, ixN_5, ixN_6, ixN_7, ixN_8, ixN_9, ixN_m1, Pz.sl_str, hl, b2, b3, G__law_lifted__law_letter, ixX, ixY, e1, e2, e3, G__law_lifted__law_times]
    try rfl
theorem lifted_run (hXY : X.length = Y.length) (hl : X.length ≤ 100) (hX : ∀ x ∈ X, x < 2 ^ 900) (hY : ∀ x ∈ Y, x < 2 ^ 900) (p : PT) (h4 : p.1 < 4) : Φ__law_lifted [.dat (lD w A B X Y), .dat (pT p)] [] = some (.ret (.dat (pT (lftP X Y p))) []) := by
  have hf := (fl_fold (tg := .nm 3) (ws := [3, 4]) (body := exB (Γ__law_lifted.at 0) b__law_lifted_1) (fun t : PT => ⟨[.dat (lD w A B X Y), .dat (pT p), .dat (pT t), .any, .any], []⟩) (fun k : Nat => .dat (.int (k : Int))) (fun t k => lup X Y p t k) sz (List.range X.length) (p.1, 0, 0) ⟨Nat.two_pow_pos _, Nat.two_pow_pos _⟩
    (fun t k ht hk => lift_turn hX hY hXY p t ht k (List.mem_range.mp hk))).2
  rw [(Eng.lup_all X Y p h4 X.length).1] at hf
  change forL _ _ _ _ ⟨[.dat (lD w A B X Y), .dat (pT p), .dat (.tuple [ni p.1, .int 0, .int 0]), .any, .any], []⟩ = some (.nx ⟨[.dat (lD w A B X Y), .dat (pT p), .dat (pT (lftP X Y p)), .any, .any], []⟩) at hf
  have rg := rgN X.length (by omega)
  unfold Φ__law_lifted b__law_lifted
  refine run_to rfl ?_
  simp (disch := (first | assumption | omega | decide | (simp only [List.length_map, List.length_append, List.length_range, List.length_cons, List.length_nil, List.length_replicate, List.length_set, List.length_take]; omega))) only [ZA, Z49, Z50, List.getElem?_cons_zero, List.getElem?_cons_succ, List.set_cons_zero, List.set_cons_succ, List.nil_append, List.cons_append, List.map_nil, List.map_cons, List.length_nil, List.length_cons, List.length_map, List.length_append, Option.map_some, Option.map_none, Option.bind_some, Option.isSome_some, decide_eq_true_eq, eq_self, wipeV, allDatB, reduceIte, if_true, if_false, Bool.false_eq_true, Nat.le_refl, Nat.zero_le, Nat.reduceAdd, Nat.reduceSub, Nat.reduceLeDiff, List.replicate, Nat.reduceLT, Nat.reduceEqDiff, Int.reduceEq, Int.reduceToNat, Int.reduceAdd, Int.reduceSub, Int.reduceMul, Int.reduceLT, Int.reduceLE, Int.reduceMod, Int.reduceDiv, Bool.not_true, Bool.not_false, Bool.and_true, Bool.and_false, Bool.true_and, Bool.false_and, Bool.true_or, Bool.or_true, Bool.false_or, Bool.or_false, Bool.not_eq_true, decide_true, decide_false, rngM_int, rng2M_int, fs_st, fs_list, fs_lok, fs_enu, fs_zip, fs_rev, alloc_ap, allDat_mp, allDat_ap, bd_mod, bd_div, bd_mul, bd_mull, shl1_c, apK_lst, apK_own, apK_obs, exK_lst, lrngM_int, bin_tt, bin_rep, ixN_nat, tupM_ap, rng0, Int.toNat_natCast, shr_c, Pz.atI_nat, bools_map2, ints_map2, any_id, all_id, clW_tup, clW_ownT, clW_ownF, noRef_ints, noRef_nis, ixN_0, ixN_1, ixN_2, ixN_3, ixN_4, ixN_5, ixN_6, ixN_7, ixN_8, ixN_9, ixN_m1, Pz.sl_str, rg, hf]
def ckP (A B : List Nat) : List PT := A.map (fun m => (0, m, 0)) ++ B.map fun m => (0, 0, m)
theorem ckp_run (hA : A.length ≤ 100) (hB : B.length ≤ 100) : Φ_Code_check_paulis [.dat (cdD w A B X Y)] [] = some (.ret (.own 0) [.lst ((ckP A B).map pT)]) := by
  have k1 : comS (.lv (.dat (nl A))) (.nm 1) [1] (bodyL (evTs (Γ_Code_check_paulis.at 0) .nil) (eltM 0 false (ev (Γ_Code_check_paulis.at 0) t_Code_check_paulis_1))) [] ⟨[.dat (cdD w A B X Y), .any], []⟩ = some (.ok (A.map fun m => .dat (pT (0, m, 0))) ⟨[.dat (cdD w A B X Y), .any], []⟩) := by
    refine cs_mapG (fun m : Nat => .dat (ni m)) _ A (by rw [← nis]; exact wk_list) (by omega) fun m hm => ⟨_, rfl, eltM_dat ?_, rfl⟩
    unfold t_Code_check_paulis_1
    simp (disch := (first | assumption | omega | decide | (simp only [List.length_map, List.length_append, List.length_range, List.length_cons, List.length_nil, List.length_replicate, List.length_set, List.length_take]; omega))) only [ZA, Z49, Z50, List.getElem?_cons_zero, List.getElem?_cons_succ, List.set_cons_zero, List.set_cons_succ, List.nil_append, List.cons_append, List.map_nil, List.map_cons, List.length_nil, List.length_cons, List.length_map, List.length_append, Option.map_some, Option.map_none, Option.bind_some, Option.isSome_some, decide_eq_true_eq, eq_self, wipeV, allDatB, reduceIte, if_true, if_false, Bool.false_eq_true, Nat.le_refl, Nat.zero_le, Nat.reduceAdd, Nat.reduceSub, Nat.reduceLeDiff, List.replicate, Nat.reduceLT, Nat.reduceEqDiff, Int.reduceEq, Int.reduceToNat, Int.reduceAdd, Int.reduceSub, Int.reduceMul, Int.reduceLT, Int.reduceLE, Int.reduceMod, Int.reduceDiv, Bool.not_true, Bool.not_false, Bool.and_true, Bool.and_false, Bool.true_and, Bool.false_and, Bool.true_or, Bool.or_true, Bool.false_or, Bool.or_false, Bool.not_eq_true, decide_true, decide_false, rngM_int, rng2M_int, fs_st, fs_list, fs_lok, fs_enu, fs_zip, fs_rev, alloc_ap, allDat_mp, allDat_ap, bd_mod, bd_div, bd_mul, bd_mull, shl1_c, apK_lst, apK_own, apK_obs, exK_lst, lrngM_int, bin_tt, bin_rep, ixN_nat, tupM_ap, rng0, Int.toNat_natCast, shr_c, Pz.atI_nat, bools_map2, ints_map2, any_id, all_id, clW_tup, clW_ownT, clW_ownF, noRef_ints, noRef_nis, ixN_0, ixN_1, ixN_2, ixN_3, ixN_4, ixN_5, ixN_6, ixN_7, ixN_8, ixN_9, ixN_m1, Pz.sl_str]
    rfl
  have k2 : comS (.lv (.dat (nl B))) (.nm 1) [1] (bodyL (evTs (Γ_Code_check_paulis.at 0) .nil) (eltM 0 false (ev (Γ_Code_check_paulis.at 0) t_Code_check_paulis_2))) [] ⟨[.dat (cdD w A B X Y), .any], []⟩ = some (.ok (B.map fun m => .dat (pT (0, 0, m))) ⟨[.dat (cdD w A B X Y), .any], []⟩) := by
    refine cs_mapG (fun m : Nat => .dat (ni m)) _ B (by rw [← nis]; exact wk_list) (by omega) fun m hm => ⟨_, rfl, eltM_dat ?_, rfl⟩
    unfold t_Code_check_paulis_2
    simp (disch := (first | assumption | omega | decide | (simp only [List.length_map, List.length_append, List.length_range, List.length_cons, List.length_nil, List.length_replicate, List.length_set, List.length_take]; omega))) only [ZA, Z49, Z50, List.getElem?_cons_zero, List.getElem?_cons_succ, List.set_cons_zero, List.set_cons_succ, List.nil_append, List.cons_append, List.map_nil, List.map_cons, List.length_nil, List.length_cons, List.length_map, List.length_append, Option.map_some, Option.map_none, Option.bind_some, Option.isSome_some, decide_eq_true_eq, eq_self, wipeV, allDatB, reduceIte, if_true, if_false, Bool.false_eq_true, Nat.le_refl, Nat.zero_le, Nat.reduceAdd, Nat.reduceSub, Nat.reduceLeDiff, List.replicate, Nat.reduceLT, Nat.reduceEqDiff, Int.reduceEq, Int.reduceToNat, Int.reduceAdd, Int.reduceSub, Int.reduceMul, Int.reduceLT, Int.reduceLE, Int.reduceMod, Int.reduceDiv, Bool.not_true, Bool.not_false, Bool.and_true, Bool.and_false, Bool.true_and, Bool.false_and, Bool.true_or, Bool.or_true, Bool.false_or, Bool.or_false, Bool.not_eq_true, decide_true, decide_false, rngM_int, rng2M_int, fs_st, fs_list, fs_lok, fs_enu, fs_zip, fs_rev, alloc_ap, allDat_mp, allDat_ap, bd_mod, bd_div, bd_mul, bd_mull, shl1_c, apK_lst, apK_own, apK_obs, exK_lst, lrngM_int, bin_tt, bin_rep, ixN_nat, tupM_ap, rng0, Int.toNat_natCast, shr_c, Pz.atI_nat, bools_map2, ints_map2, any_id, all_id, clW_tup, clW_ownT, clW_ownF, noRef_ints, noRef_nis, ixN_0, ixN_1, ixN_2, ixN_3, ixN_4, ixN_5, ixN_6, ixN_7, ixN_8, ixN_9, ixN_m1, Pz.sl_str]
    rfl
  rw [show (A.map fun m => SV.dat (pT (0, m, 0))) = ((A.map fun m => ((0, m, 0) : PT)).map pT).map SV.dat from by rw [List.map_map, List.map_map]; rfl] at k1
  rw [show (B.map fun m => SV.dat (pT (0, 0, m))) = ((B.map fun m => ((0, 0, m) : PT)).map pT).map SV.dat from by rw [List.map_map, List.map_map]; rfl] at k2
  have c1 : ∀ A1 : AS, catK true A1 (some (((A.map fun m => ((0, m, 0) : PT)).map pT).map SV.dat)) (some (((B.map fun m => ((0, 0, m) : PT)).map pT).map SV.dat)) = some (.ok (.own A1.μ.length) ⟨A1.ρ, A1.μ ++ [.lst ((ckP A B).map pT)]⟩) := fun A1 => by
    have e : (ckP A B).map pT = (A.map fun m => ((0, m, 0) : PT)).map pT ++ (B.map fun m => ((0, 0, m) : PT)).map pT := by unfold ckP; rw [List.map_append]
    rw [e, catK_ss, ← List.map_append]
    exact Pz.alloc_own (ds := (A.map fun m => ((0, m, 0) : PT)).map pT ++ (B.map fun m => ((0, 0, m) : PT)).map pT) (by rw [List.length_append, List.length_map, List.length_map, List.length_map, List.length_map]; omega)
  have lA : A.length ≤ 1000000 := by omega
  have lB : B.length ≤ 1000000 := by omega
  unfold Φ_Code_check_paulis b_Code_check_paulis
  refine run_to rfl ?_
  simp (disch := (first | assumption | omega | decide | (simp only [List.length_map, List.length_append, List.length_range, List.length_cons, List.length_nil, List.length_replicate, List.length_set, List.length_take]; omega))) only [ZA, Z49, Z50, List.getElem?_cons_zero, List.getElem?_cons_succ, List.set_cons_zero, List.set_cons_succ, List.nil_append, List.cons_append, List.map_nil, List.map_cons, List.length_nil, List.length_cons, List.length_map, List.length_append, Option.map_some, Option.map_none, Option.bind_some, Option.isSome_some, decide_eq_true_eq, eq_self, wipeV, allDatB, reduceIte, if_true, if_false, Bool.false_eq_true, Nat.le_refl, Nat.zero_le, Nat.reduceAdd, Nat.reduceSub, Nat.reduceLeDiff, List.replicate, Nat.reduceLT, Nat.reduceEqDiff, Int.reduceEq, Int.reduceToNat, Int.reduceAdd, Int.reduceSub, Int.reduceMul, Int.reduceLT, Int.reduceLE, Int.reduceMod, Int.reduceDiv, Bool.not_true, Bool.not_false, Bool.and_true, Bool.and_false, Bool.true_and, Bool.false_and, Bool.true_or, Bool.or_true, Bool.false_or, Bool.or_false, Bool.not_eq_true, decide_true, decide_false, rngM_int, rng2M_int, fs_st, fs_list, fs_lok, fs_enu, fs_zip, fs_rev, alloc_ap, allDat_mp, allDat_ap, bd_mod, bd_div, bd_mul, bd_mull, shl1_c, apK_lst, apK_own, apK_obs, exK_lst, lrngM_int, bin_tt, bin_rep, ixN_nat, tupM_ap, rng0, Int.toNat_natCast, shr_c, Pz.atI_nat, bools_map2, ints_map2, any_id, all_id, clW_tup, clW_ownT, clW_ownF, noRef_ints, noRef_nis, ixN_0, ixN_1, ixN_2, ixN_3, ixN_4, ixN_5, ixN_6, ixN_7, ixN_8, ixN_9, ixN_m1, Pz.sl_str, catt2, catt3, k1, k2, c1, lA, lB]
  try rfl
end
end Pf

set_option Elab.async false
set_option linter.all false
set_option maxRecDepth 100000
set_option maxHeartbeats 4000000
namespace Pf
open PySem PySem.Spec PyProof.Rows L2 Pz
open Evl (Ex)
section
open Eng (pop par PB VC red PT om pmul lftP)
theorem make_CD {Γ : Gm} (hΓ : Γ.mt "Code" "__init__" = Φ_Code___init__) {a b : PD} {w : Nat} (hw : w ≤ 30) {A B X Y : List Nat} (h : VC w A B X Y) {l : List PD} : makeN (Γ.at 0) "Code" false [.dat (ni w), .dat (nl A), .dat (nl B), .dat (nl X), .dat (nl Y)] ⟨[.dat a, .own 0, .dat b, .any, .any, .any, .any, .any, .any, .any, .any], [.lst l]⟩ = some (Out.ok (.dat (cdD w A B X Y)) ⟨[.dat a, .own 0, .dat b, .any, .any, .any, .any, .any, .any, .any, .any], [.lst l]⟩) := by
  have h1 := h.cnt
  have h2 := h.len
  have hi := codeI_run (ni w) (A.map ni) (B.map ni) (X.map ni) (Y.map ni) (by rw [List.length_map]; omega) (by rw [List.length_map]; omega) (by rw [List.length_map]; omega) (by rw [List.length_map]; omega) (check_ok hw h)
  have e : callN ((Γ.at 0).mt "Code" "__init__") false [.own 1, .dat (ni w), .dat (nl A), .dat (nl B), .dat (nl X), .dat (nl Y)] ⟨[.dat a, .own 0, .dat b, .any, .any, .any, .any, .any, .any, .any, .any], [.lst l, .ins "Code" []]⟩ = some (Out.ok (.dat .none) ⟨[.dat a, .own 0, .dat b, .any, .any, .any, .any, .any, .any, .any, .any], [.lst l, .ins "Code" (fsC (ni w) (nl A) (nl B) (nl X) (nl Y))]⟩) := by
    rw [show (Γ.at 0).mt "Code" "__init__" = Φ_Code___init__ from hΓ]
    have e1 : callN Φ_Code___init__ false [.own 1, .dat (ni w), .dat (nl A), .dat (nl B), .dat (nl X), .dat (nl Y)] ⟨[.dat a, .own 0, .dat b, .any, .any, .any, .any, .any, .any, .any, .any], [.lst l, .ins "Code" []]⟩ = (match Φ_Code___init__ [.own 0, .dat (ni w), .dat (nl A), .dat (nl B), .dat (nl X), .dat (nl Y)] [.ins "Code" []] with | some ro => backO false [1] ⟨[.dat a, .own 0, .dat b, .any, .any, .any, .any, .any, .any, .any, .any], [.lst l, .ins "Code" []]⟩ ro | none => none) := rfl
    rw [e1, hi]
    rfl
  unfold makeN
  simp only [List.length_cons, List.length_nil, List.cons_append, List.nil_append, Nat.zero_add, e]
  rfl
theorem okD_pL (L : List PT) (h : L.length ≤ 1000) : okD 5 (pL L) = true := by
  show (decide ((L.map pT).length ≤ 1000000) && (L.map pT).all (okD 4)) = true
  rw [Bool.and_eq_true, decide_eq_true_eq, List.length_map, List.all_map, List.all_eq_true]
  exact ⟨by omega, fun p _ => rfl⟩
theorem law_run : ∀ ns : List Int, ns.length ≤ 63 → ∃ μ, Φ_law [.dat (.lok (ns.map .int))] [] = some (.ret (.dat (.bool true)) μ) := fun ns hl => by
  refine ⟨[], ?_⟩
  obtain ⟨p4, hp⟩ := pool_run ns hl
  obtain ⟨w, A, B, X, Y, a1, a2, a3, h, hw, hc⟩ := code_run ns 0 0 0 p4
  have hbk : ∀ (ρ : List SV), backK false [0] ⟨ρ, [.lst (pl ns 0 0 0 p4)]⟩ (some (.ret (.own 1) (cN w (pl ns a1 a2 a3 p4) A B X Y))) = some (.ok (.dat (lD w A B X Y)) ⟨ρ, [.lst (pl ns a1 a2 a3 p4)]⟩) := fun ρ => rfl
  have h1 := h.cnt
  have h2 := h.len
  have hg := Eng.VC.lg h
  obtain ⟨a, b1, b2, b3, ha, hpa⟩ := pauli_run ns a1 a2 a3 p4 X.length (by omega)
  obtain ⟨b, c1, c2, c3, hb, hpb⟩ := pauli_run ns b1 b2 b3 p4 X.length (by omega)
  have up : ∀ {m n : Nat}, n ≤ 4 → m < 2 ^ n → m < 2 ^ 900 := fun hn hm => Nat.lt_of_lt_of_le hm (Nat.pow_le_pow_right (by decide) (by omega))
  have sX : ∀ x ∈ X, x < 2 ^ 900 := fun x hx => up hw (h.lL x hx)
  have sY : ∀ x ∈ Y, x < 2 ^ 900 := fun x hx => up hw (h.lK x hx)
  have sa : sz a := ⟨up (by omega) ha.2.1, up (by omega) ha.2.2⟩
  have sb : sz b := ⟨up (by omega) hb.2.1, up (by omega) hb.2.2⟩
  have hlf : ∀ p : PT, p.1 < 4 ∧ p.2.1 < 2 ^ X.length ∧ p.2.2 < 2 ^ X.length → sz (lftP X Y p) := fun p hp => by
    obtain ⟨_, q, _⟩ := Eng.lift_ok hg hp.1 hp.2.1 hp.2.2
    unfold sz
    rw [q]
    exact ⟨up hw (Eng.XS_lt h.lL _), up hw (Eng.XS_lt h.lK _)⟩
  have hmk := make_CD (Γ := Γ_law) G_law_Code___init__ (a := .lok (ns.map .int)) (b := lD w A B X Y) (by omega : w ≤ 30) h (l := pl ns a1 a2 a3 p4)
  have k1 : comS (.lv (.dat (nl A))) (.nm 9) [9] (bodyL (evTs (Γ_law.at 0) .nil) (eltM 0 false (ev (Γ_law.at 0) t_law_1))) [] ⟨[.dat (.lok (ns.map .int)), .own 0, .dat (lD w A B X Y), .dat (cdD w A B X Y), .any, .any, .any, .any, .any, .any, .any], [.lst (pl ns a1 a2 a3 p4)]⟩ = some (.ok (A.map fun m => .dat (pT (0, m, 0))) ⟨[.dat (.lok (ns.map .int)), .own 0, .dat (lD w A B X Y), .dat (cdD w A B X Y), .any, .any, .any, .any, .any, .any, .any], [.lst (pl ns a1 a2 a3 p4)]⟩) := by
    refine cs_mapG (fun m : Nat => .dat (ni m)) _ A (by rw [← nis]; exact wk_list) (by omega) fun m hm => ⟨_, rfl, eltM_dat ?_, rfl⟩
    unfold t_law_1
    simp (disch := (first | assumption | omega | decide | (simp only [List.length_map, List.length_append, List.length_range, List.length_cons, List.length_nil, List.length_replicate, List.length_set, List.length_take]; omega))) only [ZA, Z49, Z50, List.getElem?_cons_zero, List.getElem?_cons_succ, List.set_cons_zero, List.set_cons_succ, List.nil_append, List.cons_append, List.map_nil, List.map_cons, List.length_nil, List.length_cons, List.length_map, List.length_append, Option.map_some, Option.map_none, Option.bind_some, Option.isSome_some, decide_eq_true_eq, eq_self, wipeV, allDatB, reduceIte, if_true, if_false, Bool.false_eq_true, Nat.le_refl, Nat.zero_le, Nat.reduceAdd, Nat.reduceSub, Nat.reduceLeDiff, List.replicate, Nat.reduceLT, Nat.reduceEqDiff, Int.reduceEq, Int.reduceToNat, Int.reduceAdd, Int.reduceSub, Int.reduceMul, Int.reduceLT, Int.reduceLE, Int.reduceMod, Int.reduceDiv, Bool.not_true, Bool.not_false, Bool.and_true, Bool.and_false, Bool.true_and, Bool.false_and, Bool.true_or, Bool.or_true, Bool.false_or, Bool.or_false, Bool.not_eq_true, decide_true, decide_false, rngM_int, rng2M_int, fs_st, fs_list, fs_lok, fs_enu, fs_zip, fs_rev, alloc_ap, allDat_mp, allDat_ap, bd_mod, bd_div, bd_mul, bd_mull, shl1_c, apK_lst, apK_own, apK_obs, exK_lst, lrngM_int, bin_tt, bin_rep, ixN_nat, tupM_ap, rng0, Int.toNat_natCast, shr_c, Pz.atI_nat, bools_map2, ints_map2, any_id, all_id, clW_tup, clW_ownT, clW_ownF, noRef_ints, noRef_nis, ixN_0, ixN_1, ixN_2, ixN_3, ixN_4, ixN_5, ixN_6, ixN_7, ixN_8, ixN_9, ixN_m1, Pz.sl_str]
    rfl
  have k2 : comS (.lv (.dat (nl B))) (.nm 9) [9] (bodyL (evTs (Γ_law.at 0) .nil) (eltM 0 false (ev (Γ_law.at 0) t_law_2))) [] ⟨[.dat (.lok (ns.map .int)), .own 0, .dat (lD w A B X Y), .dat (cdD w A B X Y), .any, .any, .any, .any, .any, .any, .any], [.lst (pl ns a1 a2 a3 p4)]⟩ = some (.ok (B.map fun m => .dat (pT (0, 0, m))) ⟨[.dat (.lok (ns.map .int)), .own 0, .dat (lD w A B X Y), .dat (cdD w A B X Y), .any, .any, .any, .any, .any, .any, .any], [.lst (pl ns a1 a2 a3 p4)]⟩) := by
    refine cs_mapG (fun m : Nat => .dat (ni m)) _ B (by rw [← nis]; exact wk_list) (by omega) fun m hm => ⟨_, rfl, eltM_dat ?_, rfl⟩
    unfold t_law_2
    simp (disch := (first | assumption | omega | decide | (simp only [List.length_map, List.length_append, List.length_range, List.length_cons, List.length_nil, List.length_replicate, List.length_set, List.length_take]; omega))) only [ZA, Z49, Z50, List.getElem?_cons_zero, List.getElem?_cons_succ, List.set_cons_zero, List.set_cons_succ, List.nil_append, List.cons_append, List.map_nil, List.map_cons, List.length_nil, List.length_cons, List.length_map, List.length_append, Option.map_some, Option.map_none, Option.bind_some, Option.isSome_some, decide_eq_true_eq, eq_self, wipeV, allDatB, reduceIte, if_true, if_false, Bool.false_eq_true, Nat.le_refl, Nat.zero_le, Nat.reduceAdd, Nat.reduceSub, Nat.reduceLeDiff, List.replicate, Nat.reduceLT, Nat.reduceEqDiff, Int.reduceEq, Int.reduceToNat, Int.reduceAdd, Int.reduceSub, Int.reduceMul, Int.reduceLT, Int.reduceLE, Int.reduceMod, Int.reduceDiv, Bool.not_true, Bool.not_false, Bool.and_true, Bool.and_false, Bool.true_and, Bool.false_and, Bool.true_or, Bool.or_true, Bool.false_or, Bool.or_false, Bool.not_eq_true, decide_true, decide_false, rngM_int, rng2M_int, fs_st, fs_list, fs_lok, fs_enu, fs_zip, fs_rev, alloc_ap, allDat_mp, allDat_ap, bd_mod, bd_div, bd_mul, bd_mull, shl1_c, apK_lst, apK_own, apK_obs, exK_lst, lrngM_int, bin_tt, bin_rep, ixN_nat, tupM_ap, rng0, Int.toNat_natCast, shr_c, Pz.atI_nat, bools_map2, ints_map2, any_id, all_id, clW_tup, clW_ownT, clW_ownF, noRef_ints, noRef_nis, ixN_0, ixN_1, ixN_2, ixN_3, ixN_4, ixN_5, ixN_6, ixN_7, ixN_8, ixN_9, ixN_m1, Pz.sl_str]
    rfl
  rw [show (A.map fun m => SV.dat (pT (0, m, 0))) = ((A.map fun m => ((0, m, 0) : PT)).map pT).map SV.dat from by rw [List.map_map, List.map_map]; rfl] at k1
  rw [show (B.map fun m => SV.dat (pT (0, 0, m))) = ((B.map fun m => ((0, 0, m) : PT)).map pT).map SV.dat from by rw [List.map_map, List.map_map]; rfl] at k2
  have cc : ∀ A1 : AS, catK false A1 (some (((A.map fun m => ((0, m, 0) : PT)).map pT).map SV.dat)) (some (((B.map fun m => ((0, 0, m) : PT)).map pT).map SV.dat)) = some (.ok (.dat (pL (ckP A B))) A1) := fun A1 => by
    have e : (ckP A B).map pT = (A.map fun m => ((0, m, 0) : PT)).map pT ++ (B.map fun m => ((0, 0, m) : PT)).map pT := by unfold ckP; rw [List.map_append]
    show _ = some (Out.ok (SV.dat (PD.list ((ckP A B).map pT))) A1)
    rw [e, catK_ss, ← List.map_append]
    exact Pz.alloc_dat (by rw [List.length_append, List.length_map, List.length_map, List.length_map, List.length_map]; omega)
  have lA : A.length ≤ 1000000 := by omega
  have lB : B.length ≤ 1000000 := by omega
  have lC : (ckP A B).length ≤ 1000 := by unfold ckP; rw [List.length_append, List.length_map, List.length_map]; omega
  have hck := ckp_run (w := w) (A := A) (B := B) (X := X) (Y := Y) (by omega) (by omega)
  have s0 := same_refl 5 (pL (ckP A B)) (okD_pL _ lC)
  have sp := fun p : PT => same_refl 5 (pT p) rfl
  have la := logp_run (w := w) (A := A) (B := B) (X := X) (Y := Y) h2 (by omega) sX sY a ha.1
  have lb := logp_run (w := w) (A := A) (B := B) (X := X) (Y := Y) h2 (by omega) sX sY b hb.1
  have lab := logp_run (w := w) (A := A) (B := B) (X := X) (Y := Y) h2 (by omega) sX sY (pmul a b) (Eng.pmul_lt a b)
  rw [Eng.lift_hom hg ha hb] at lab
  have fa := lifted_run (w := w) (A := A) (B := B) (X := X) (Y := Y) h2 (by omega) sX sY a ha.1
  have fb := lifted_run (w := w) (A := A) (B := B) (X := X) (Y := Y) h2 (by omega) sX sY b hb.1
  have t1 := times_run a b sa sb
  have t2 := times_run (lftP X Y a) (lftP X Y b) (hlf a ha) (hlf b hb)
  have m1 := lcom_run a b sa sb
  have m2 := lcom_run (lftP X Y a) (lftP X Y b) (hlf a ha) (hlf b hb)
  rw [Eng.lift_om hg ha hb] at m2
  have pa := Eng.lift_par hg ha
  have hz : (ckP A B).filter (fun q => om q (lftP X Y a)) = [] := List.filter_eq_nil_iff.mpr fun q hq => by
    obtain ⟨_, e, _⟩ := Eng.lift_ok hg ha.1 ha.2.1 ha.2.2
    have : om q (lftP X Y a) = false := by
      unfold ckP at hq
      unfold om
      rw [e]
      rcases List.mem_append.mp hq with hq | hq
      · obtain ⟨m, hm, rfl⟩ := List.mem_map.mp hq
        show (par (m &&& Eng.XS Y a.2.2) ^^ par (0 &&& _)) = false
        rw [Eng.XS_ev (fun r hr => h.ck m hm r hr), Nat.zero_and, Eng.par_zero]; rfl
      · obtain ⟨m, hm, rfl⟩ := List.mem_map.mp hq
        show (par (0 &&& _) ^^ par (m &&& Eng.XS X a.2.1)) = false
        rw [Eng.XS_ev (fun r hr => h.dl m hm r hr), Nat.zero_and, Eng.par_zero]; rfl
    rw [this]; exact Bool.false_ne_true
  have szC : ∀ q ∈ ckP A B, sz q := fun q hq => by
    unfold ckP at hq
    rcases List.mem_append.mp hq with hq | hq
    · obtain ⟨m, hm, rfl⟩ := List.mem_map.mp hq
      exact ⟨up hw (h.lC m hm), Nat.two_pow_pos _⟩
    · obtain ⟨m, hm, rfl⟩ := List.mem_map.mp hq
      exact ⟨Nat.two_pow_pos _, up hw (h.lD m hm)⟩
  have k3 : comS (.lv (.dat (pL (ckP A B)))) (.nm 10) [10] (bodyL (evTs (Γ_law.at 0) ts_law_4) (eltM 0 false (ev (Γ_law.at 0) t_law_3))) [] ⟨[.dat (.lok (ns.map .int)), .own 0, .dat (lD w A B X Y), .dat (cdD w A B X Y), .dat (pL (ckP A B)), .dat (pT a), .dat (pT b), .dat (pT (lftP X Y a)), .dat (pT (lftP X Y b)), .any, .any], [.lst (pl ns c1 c2 c3 p4)]⟩ = some (.ok (((ckP A B).filter fun q => om q (lftP X Y a)).map fun q => .dat (pT q)) ⟨[.dat (.lok (ns.map .int)), .own 0, .dat (lD w A B X Y), .dat (cdD w A B X Y), .dat (pL (ckP A B)), .dat (pT a), .dat (pT b), .dat (pT (lftP X Y a)), .dat (pT (lftP X Y b)), .any, .any], [.lst (pl ns c1 c2 c3 p4)]⟩) := by
    refine cs_filterG (fun q : PT => .dat (pT q)) (fun q => om q (lftP X Y a)) _ (ckP A B) (by rw [← pts]; exact wk_list) (by omega) fun q hq => ⟨_, rfl, ?_, fun _ => eltM_dat ?_, rfl⟩
    · have := lcom_run q (lftP X Y a) (szC q hq) (hlf a ha)
      unfold ts_law_4
      simp (disch := (first | assumption | omega | decide | (simp only [List.length_map, List.length_append, List.length_range, List.length_cons, List.length_nil, List.length_replicate, List.length_set, List.length_take]; omega))) only [ZA, Z49, Z50, List.getElem?_cons_zero, List.getElem?_cons_succ, List.set_cons_zero, List.set_cons_succ, List.nil_append, List.cons_append, List.map_nil, List.map_cons, List.length_nil, List.length_cons, List.length_map, List.length_append, Option.map_some, Option.map_none, Option.bind_some, Option.isSome_some, decide_eq_true_eq, eq_self, wipeV, allDatB, reduceIte, if_true, if_false, Bool.false_eq_true, Nat.le_refl, Nat.zero_le, Nat.reduceAdd, Nat.reduceSub, Nat.reduceLeDiff, List.replicate, Nat.reduceLT, Nat.reduceEqDiff, Int.reduceEq, Int.reduceToNat, Int.reduceAdd, Int.reduceSub, Int.reduceMul, Int.reduceLT, Int.reduceLE, Int.reduceMod, Int.reduceDiv, Bool.not_true, Bool.not_false, Bool.and_true, Bool.and_false, Bool.true_and, Bool.false_and, Bool.true_or, Bool.or_true, Bool.false_or, Bool.or_false, Bool.not_eq_true, decide_true, decide_false, rngM_int, rng2M_int, fs_st, fs_list, fs_lok, fs_enu, fs_zip, fs_rev, alloc_ap, allDat_mp, allDat_ap, bd_mod, bd_div, bd_mul, bd_mull, shl1_c, apK_lst, apK_own, apK_obs, exK_lst, lrngM_int, bin_tt, bin_rep, ixN_nat, tupM_ap, rng0, Int.toNat_natCast, shr_c, Pz.atI_nat, bools_map2, ints_map2, any_id, all_id, clW_tup, clW_ownT, clW_ownF, noRef_ints, noRef_nis, ixN_0, ixN_1, ixN_2, ixN_3, ixN_4, ixN_5, ixN_6, ixN_7, ixN_8, ixN_9, ixN_m1, Pz.sl_str, G_law__law_commute, this]
      try simp only [Bool.not_not]
      try rfl
    · unfold t_law_3
      simp (disch := (first | assumption | omega | decide | (simp only [List.length_map, List.length_append, List.length_range, List.length_cons, List.length_nil, List.length_replicate, List.length_set, List.length_take]; omega))) only [ZA, Z49, Z50, List.getElem?_cons_zero, List.getElem?_cons_succ, List.set_cons_zero, List.set_cons_succ, List.nil_append, List.cons_append, List.map_nil, List.map_cons, List.length_nil, List.length_cons, List.length_map, List.length_append, Option.map_some, Option.map_none, Option.bind_some, Option.isSome_some, decide_eq_true_eq, eq_self, wipeV, allDatB, reduceIte, if_true, if_false, Bool.false_eq_true, Nat.le_refl, Nat.zero_le, Nat.reduceAdd, Nat.reduceSub, Nat.reduceLeDiff, List.replicate, Nat.reduceLT, Nat.reduceEqDiff, Int.reduceEq, Int.reduceToNat, Int.reduceAdd, Int.reduceSub, Int.reduceMul, Int.reduceLT, Int.reduceLE, Int.reduceMod, Int.reduceDiv, Bool.not_true, Bool.not_false, Bool.and_true, Bool.and_false, Bool.true_and, Bool.false_and, Bool.true_or, Bool.or_true, Bool.false_or, Bool.or_false, Bool.not_eq_true, decide_true, decide_false, rngM_int, rng2M_int, fs_st, fs_list, fs_lok, fs_enu, fs_zip, fs_rev, alloc_ap, allDat_mp, allDat_ap, bd_mod, bd_div, bd_mul, bd_mull, shl1_c, apK_lst, apK_own, apK_obs, exK_lst, lrngM_int, bin_tt, bin_rep, ixN_nat, tupM_ap, rng0, Int.toNat_natCast, shr_c, Pz.atI_nat, bools_map2, ints_map2, any_id, all_id, clW_tup, clW_ownT, clW_ownF, noRef_ints, noRef_nis, ixN_0, ixN_1, ixN_2, ixN_3, ixN_4, ixN_5, ixN_6, ixN_7, ixN_8, ixN_9, ixN_m1, Pz.sl_str]
  rw [hz] at k3
  unfold Φ_law b_law
  refine run_to rfl ?_
  simp (disch := (first | assumption | omega | decide | (simp only [List.length_map, List.length_append, List.length_range, List.length_cons, List.length_nil, List.length_replicate, List.length_set, List.length_take]; omega))) only [ZA, Z49, Z50, List.getElem?_cons_zero, List.getElem?_cons_succ, List.set_cons_zero, List.set_cons_succ, List.nil_append, List.cons_append, List.map_nil, List.map_cons, List.length_nil, List.length_cons, List.length_map, List.length_append, Option.map_some, Option.map_none, Option.bind_some, Option.isSome_some, decide_eq_true_eq, eq_self, wipeV, allDatB, reduceIte, if_true, if_false, Bool.false_eq_true, Nat.le_refl, Nat.zero_le, Nat.reduceAdd, Nat.reduceSub, Nat.reduceLeDiff, List.replicate, Nat.reduceLT, Nat.reduceEqDiff, Int.reduceEq, Int.reduceToNat, Int.reduceAdd, Int.reduceSub, Int.reduceMul, Int.reduceLT, Int.reduceLE, Int.reduceMod, Int.reduceDiv, Bool.not_true, Bool.not_false, Bool.and_true, Bool.and_false, Bool.true_and, Bool.false_and, Bool.true_or, Bool.or_true, Bool.false_or, Bool.or_false, Bool.not_eq_true, decide_true, decide_false, rngM_int, rng2M_int, fs_st, fs_list, fs_lok, fs_enu, fs_zip, fs_rev, alloc_ap, allDat_mp, allDat_ap, bd_mod, bd_div, bd_mul, bd_mull, shl1_c, apK_lst, apK_own, apK_obs, exK_lst, lrngM_int, bin_tt, bin_rep, ixN_nat, tupM_ap, rng0, Int.toNat_natCast, shr_c, Pz.atI_nat, bools_map2, ints_map2, any_id, all_id, clW_tup, clW_ownT, clW_ownF, noRef_ints, noRef_nis, ixN_0, ixN_1, ixN_2, ixN_3, ixN_4, ixN_5, ixN_6, ixN_7, ixN_8, ixN_9, ixN_m1, Pz.sl_str, G_law__law_pool, hp, G_law__law_code, hc, hbk, hmk, k1, k2, cc, lA, lB, ccls, G_law_Code_check_paulis, H_law_Code_check_paulis, hck, G_law__law_same, s0, G_law__law_pauli, hpa, hpb, G_law_Code_logical_pauli, H_law_Code_logical_pauli, la, lb, G_law__law_lifted, fa, fb, sp, G_law__law_times, t1, t2, lab, G_law__law_commute, m1, m2, and_1, pa, k3]
  try rfl
end
end Pf

set_option Elab.async false
set_option linter.all false
set_option maxRecDepth 100000
set_option maxHeartbeats 4000000
namespace Pf
open PySem PySem.Spec PyProof.Rows L2 Pz
open Evl (Ex)
theorem all_mk {l : PySem.W.OpenLaw} {w : World} {K : PySem.W.Frag} {h : Heap} {mg : Str → Option Value} {fa f0 f1 f2 f3 f4 f5 f6 f7 f8 f9 f10 f11 f12 f13 f14 f15 f16 f17 f18 f19 f20 f21 f22 f23 f24 f25 f26 x0 x1 yCode : Addr} {od0 an0 od1 an1 od2 an2 od3 an3 od4 an4 od5 an5 od6 an6 od7 an7 od8 an8 od9 an9 od10 an10 od11 an11 od12 an12 od13 an13 od14 an14 od15 an15 od16 an16 od17 an17 od18 an18 od19 an19 od20 an20 od21 an21 od22 an22 od23 an23 od24 an24 od25 an25 od26 an26 : Option Addr} {sl0 sl1 sl2 sl3 sl4 sl5 sl6 sl7 sl8 sl9 sl10 sl11 sl12 sl13 sl14 sl15 sl16 sl17 sl18 sl19 sl20 sl21 sl22 sl23 sl24 sl25 sl26 : Array (Option Value)} {oc0 kV0 dc0 pm0 cd0 ct0 oc1 kV1 dc1 pm1 cd1 ct1 oc2 kV2 dc2 pm2 cd2 ct2 oc3 kV3 dc3 pm3 cd3 ct3 oc4 kV4 dc4 pm4 cd4 ct4 oc5 kV5 dc5 pm5 cd5 ct5 oc6 kV6 dc6 pm6 cd6 ct6 oc7 kV7 dc7 pm7 cd7 ct7 oc8 kV8 dc8 pm8 cd8 ct8 oc9 kV9 dc9 pm9 cd9 ct9 oc10 kV10 dc10 pm10 cd10 ct10 oc11 kV11 dc11 pm11 cd11 ct11 oc12 kV12 dc12 pm12 cd12 ct12 oc13 kV13 dc13 pm13 cd13 ct13 oc14 kV14 dc14 pm14 cd14 ct14 oc15 kV15 dc15 pm15 cd15 ct15 oc16 kV16 dc16 pm16 cd16 ct16 oc17 kV17 dc17 pm17 cd17 ct17 oc18 kV18 dc18 pm18 cd18 ct18 oc19 kV19 dc19 pm19 cd19 ct19 oc20 kV20 dc20 pm20 cd20 ct20 oc21 kV21 dc21 pm21 cd21 ct21 oc22 kV22 dc22 pm22 cd22 ct22 oc23 kV23 dc23 pm23 cd23 ct23 oc24 kV24 dc24 pm24 cd24 ct24 oc25 kV25 dc25 pm25 cd25 ct25 oc26 kV26 dc26 pm26 cd26 ct26 : Value} (X : K.In h) (G : h.Ns mainGlobals mg) (hfa : mg "law" = some (.ref fa))
    (a0 : PySem.W.nsIn K mainGlobals "_law_pool" = some (some (.ref f0)))
    (l0 : K.lookup f0 = some ⟨oc0, od0, .func (PySem.W.fnOf "_law_pool" "_law_pool" (defArgs s__law_pool) (defBody s__law_pool) (defScope s__law_pool) .none kV0 dc0 pm0 an0 cd0 ct0), sl0⟩)
    (c0 : PySem.W.codeIn K cd0 "_law_pool" = true)
    (k0 : PySem.W.keepIn K (.ref f0) = true)
    (a1 : PySem.W.nsIn K mainGlobals "_law_spread" = some (some (.ref f1)))
    (l1 : K.lookup f1 = some ⟨oc1, od1, .func (PySem.W.fnOf "_law_spread" "_law_spread" (defArgs s__law_spread) (defBody s__law_spread) (defScope s__law_spread) .none kV1 dc1 pm1 an1 cd1 ct1), sl1⟩)
    (c1 : PySem.W.codeIn K cd1 "_law_spread" = true)
    (k1 : PySem.W.keepIn K (.ref f1) = true)
    (a2 : PySem.W.nsIn K mainGlobals "_law_draw" = some (some (.ref f2)))
    (l2 : K.lookup f2 = some ⟨oc2, od2, .func (PySem.W.fnOf "_law_draw" "_law_draw" (defArgs s__law_draw) (defBody s__law_draw) (defScope s__law_draw) .none kV2 dc2 pm2 an2 cd2 ct2), sl2⟩)
    (c2 : PySem.W.codeIn K cd2 "_law_draw" = true)
    (k2 : PySem.W.keepIn K (.ref f2) = true)
    (a3 : PySem.W.nsIn K mainGlobals "_law_mix" = some (some (.ref f3)))
    (l3 : K.lookup f3 = some ⟨oc3, od3, .func (PySem.W.fnOf "_law_mix" "_law_mix" (defArgs s__law_mix) (defBody s__law_mix) (defScope s__law_mix) .none kV3 dc3 pm3 an3 cd3 ct3), sl3⟩)
    (c3 : PySem.W.codeIn K cd3 "_law_mix" = true)
    (k3 : PySem.W.keepIn K (.ref f3) = true)
    (a4 : PySem.W.nsIn K mainGlobals "_law_code" = some (some (.ref f4)))
    (l4 : K.lookup f4 = some ⟨oc4, od4, .func (PySem.W.fnOf "_law_code" "_law_code" (defArgs s__law_code) (defBody s__law_code) (defScope s__law_code) .none kV4 dc4 pm4 an4 cd4 ct4), sl4⟩)
    (c4 : PySem.W.codeIn K cd4 "_law_code" = true)
    (k4 : PySem.W.keepIn K (.ref f4) = true)
    (a5 : PySem.W.nsIn K mainGlobals "_law_pauli" = some (some (.ref f5)))
    (l5 : K.lookup f5 = some ⟨oc5, od5, .func (PySem.W.fnOf "_law_pauli" "_law_pauli" (defArgs s__law_pauli) (defBody s__law_pauli) (defScope s__law_pauli) .none kV5 dc5 pm5 an5 cd5 ct5), sl5⟩)
    (c5 : PySem.W.codeIn K cd5 "_law_pauli" = true)
    (k5 : PySem.W.keepIn K (.ref f5) = true)
    (a6 : PySem.W.nsIn K mainGlobals "_law_same" = some (some (.ref f6)))
    (l6 : K.lookup f6 = some ⟨oc6, od6, .func (PySem.W.fnOf "_law_same" "_law_same" (defArgs s__law_same) (defBody s__law_same) (defScope s__law_same) .none kV6 dc6 pm6 an6 cd6 ct6), sl6⟩)
    (c6 : PySem.W.codeIn K cd6 "_law_same" = true)
    (k6 : PySem.W.keepIn K (.ref f6) = true)
    (a7 : PySem.W.nsIn K mainGlobals "_law_letter" = some (some (.ref f7)))
    (l7 : K.lookup f7 = some ⟨oc7, od7, .func (PySem.W.fnOf "_law_letter" "_law_letter" (defArgs s__law_letter) (defBody s__law_letter) (defScope s__law_letter) .none kV7 dc7 pm7 an7 cd7 ct7), sl7⟩)
    (c7 : PySem.W.codeIn K cd7 "_law_letter" = true)
    (k7 : PySem.W.keepIn K (.ref f7) = true)
    (a8 : PySem.W.nsIn K mainGlobals "_law_times" = some (some (.ref f8)))
    (l8 : K.lookup f8 = some ⟨oc8, od8, .func (PySem.W.fnOf "_law_times" "_law_times" (defArgs s__law_times) (defBody s__law_times) (defScope s__law_times) .none kV8 dc8 pm8 an8 cd8 ct8), sl8⟩)
    (c8 : PySem.W.codeIn K cd8 "_law_times" = true)
    (k8 : PySem.W.keepIn K (.ref f8) = true)
    (a9 : PySem.W.nsIn K mainGlobals "_law_commute" = some (some (.ref f9)))
    (l9 : K.lookup f9 = some ⟨oc9, od9, .func (PySem.W.fnOf "_law_commute" "_law_commute" (defArgs s__law_commute) (defBody s__law_commute) (defScope s__law_commute) .none kV9 dc9 pm9 an9 cd9 ct9), sl9⟩)
    (c9 : PySem.W.codeIn K cd9 "_law_commute" = true)
    (k9 : PySem.W.keepIn K (.ref f9) = true)
    (a10 : PySem.W.nsIn K mainGlobals "_law_lifted" = some (some (.ref f10)))
    (l10 : K.lookup f10 = some ⟨oc10, od10, .func (PySem.W.fnOf "_law_lifted" "_law_lifted" (defArgs s__law_lifted) (defBody s__law_lifted) (defScope s__law_lifted) .none kV10 dc10 pm10 an10 cd10 ct10), sl10⟩)
    (c10 : PySem.W.codeIn K cd10 "_law_lifted" = true)
    (k10 : PySem.W.keepIn K (.ref f10) = true)
    (a11 : PySem.W.nsIn K mainGlobals "weight" = some (some (.ref f11)))
    (l11 : K.lookup f11 = some ⟨oc11, od11, .func (PySem.W.fnOf "weight" "weight" (defArgs s_weight) (defBody s_weight) (defScope s_weight) .none kV11 dc11 pm11 an11 cd11 ct11), sl11⟩)
    (c11 : PySem.W.codeIn K cd11 "weight" = true)
    (k11 : PySem.W.keepIn K (.ref f11) = true)
    (a12 : PySem.W.nsIn K mainGlobals "pauli_mul" = some (some (.ref f12)))
    (l12 : K.lookup f12 = some ⟨oc12, od12, .func (PySem.W.fnOf "pauli_mul" "pauli_mul" (defArgs s_pauli_mul) (defBody s_pauli_mul) (defScope s_pauli_mul) .none kV12 dc12 pm12 an12 cd12 ct12), sl12⟩)
    (c12 : PySem.W.codeIn K cd12 "pauli_mul" = true)
    (k12 : PySem.W.keepIn K (.ref f12) = true)
    (a13 : PySem.W.nsIn K mainGlobals "product_of" = some (some (.ref f13)))
    (l13 : K.lookup f13 = some ⟨oc13, od13, .func (PySem.W.fnOf "product_of" "product_of" (defArgs s_product_of) (defBody s_product_of) (defScope s_product_of) .none kV13 dc13 pm13 an13 cd13 ct13), sl13⟩)
    (c13 : PySem.W.codeIn K cd13 "product_of" = true)
    (k13 : PySem.W.keepIn K (.ref f13) = true)
    (l14 : K.lookup f14 = some ⟨oc14, od14, .func (PySem.W.fnOf "logical_pauli" "Code.logical_pauli" (defArgs s_Code_logical_pauli) (defBody s_Code_logical_pauli) (defScope s_Code_logical_pauli) .none kV14 dc14 pm14 an14 cd14 ct14), sl14⟩)
    (c14 : PySem.W.codeIn K cd14 "Code.logical_pauli" = true)
    (k14 : PySem.W.keepIn K (.ref f14) = true)
    (l15 : K.lookup f15 = some ⟨oc15, od15, .func (PySem.W.fnOf "check_paulis" "Code.check_paulis" (defArgs s_Code_check_paulis) (defBody s_Code_check_paulis) (defScope s_Code_check_paulis) .none kV15 dc15 pm15 an15 cd15 ct15), sl15⟩)
    (c15 : PySem.W.codeIn K cd15 "Code.check_paulis" = true)
    (k15 : PySem.W.keepIn K (.ref f15) = true)
    (a16 : PySem.W.nsIn K mainGlobals "check_masks" = some (some (.ref f16)))
    (l16 : K.lookup f16 = some ⟨oc16, od16, .func (PySem.W.fnOf "check_masks" "check_masks" (defArgs s_check_masks) (defBody s_check_masks) (defScope s_check_masks) .none kV16 dc16 pm16 an16 cd16 ct16), sl16⟩)
    (c16 : PySem.W.codeIn K cd16 "check_masks" = true)
    (k16 : PySem.W.keepIn K (.ref f16) = true)
    (a17 : PySem.W.nsIn K mainGlobals "parity" = some (some (.ref f17)))
    (l17 : K.lookup f17 = some ⟨oc17, od17, .func (PySem.W.fnOf "parity" "parity" (defArgs s_parity) (defBody s_parity) (defScope s_parity) .none kV17 dc17 pm17 an17 cd17 ct17), sl17⟩)
    (c17 : PySem.W.codeIn K cd17 "parity" = true)
    (k17 : PySem.W.keepIn K (.ref f17) = true)
    (a18 : PySem.W.nsIn K mainGlobals "parities" = some (some (.ref f18)))
    (l18 : K.lookup f18 = some ⟨oc18, od18, .func (PySem.W.fnOf "parities" "parities" (defArgs s_parities) (defBody s_parities) (defScope s_parities) .none kV18 dc18 pm18 an18 cd18 ct18), sl18⟩)
    (c18 : PySem.W.codeIn K cd18 "parities" = true)
    (k18 : PySem.W.keepIn K (.ref f18) = true)
    (a19 : PySem.W.nsIn K mainGlobals "check_pairs" = some (some (.ref f19)))
    (l19 : K.lookup f19 = some ⟨oc19, od19, .func (PySem.W.fnOf "check_pairs" "check_pairs" (defArgs s_check_pairs) (defBody s_check_pairs) (defScope s_check_pairs) .none kV19 dc19 pm19 an19 cd19 ct19), sl19⟩)
    (c19 : PySem.W.codeIn K cd19 "check_pairs" = true)
    (k19 : PySem.W.keepIn K (.ref f19) = true)
    (a20 : PySem.W.nsIn K mainGlobals "all_even" = some (some (.ref f20)))
    (l20 : K.lookup f20 = some ⟨oc20, od20, .func (PySem.W.fnOf "all_even" "all_even" (defArgs s_all_even) (defBody s_all_even) (defScope s_all_even) .none kV20 dc20 pm20 an20 cd20 ct20), sl20⟩)
    (c20 : PySem.W.codeIn K cd20 "all_even" = true)
    (k20 : PySem.W.keepIn K (.ref f20) = true)
    (a21 : PySem.W.nsIn K mainGlobals "reduced" = some (some (.ref f21)))
    (l21 : K.lookup f21 = some ⟨oc21, od21, .func (PySem.W.fnOf "reduced" "reduced" (defArgs s_reduced) (defBody s_reduced) (defScope s_reduced) .none kV21 dc21 pm21 an21 cd21 ct21), sl21⟩)
    (c21 : PySem.W.codeIn K cd21 "reduced" = true)
    (k21 : PySem.W.keepIn K (.ref f21) = true)
    (a22 : PySem.W.nsIn K mainGlobals "echelon" = some (some (.ref f22)))
    (l22 : K.lookup f22 = some ⟨oc22, od22, .func (PySem.W.fnOf "echelon" "echelon" (defArgs s_echelon) (defBody s_echelon) (defScope s_echelon) .none kV22 dc22 pm22 an22 cd22 ct22), sl22⟩)
    (c22 : PySem.W.codeIn K cd22 "echelon" = true)
    (k22 : PySem.W.keepIn K (.ref f22) = true)
    (a23 : PySem.W.nsIn K mainGlobals "rank" = some (some (.ref f23)))
    (l23 : K.lookup f23 = some ⟨oc23, od23, .func (PySem.W.fnOf "rank" "rank" (defArgs s_rank) (defBody s_rank) (defScope s_rank) .none kV23 dc23 pm23 an23 cd23 ct23), sl23⟩)
    (c23 : PySem.W.codeIn K cd23 "rank" = true)
    (k23 : PySem.W.keepIn K (.ref f23) = true)
    (a24 : PySem.W.nsIn K mainGlobals "check_code" = some (some (.ref f24)))
    (l24 : K.lookup f24 = some ⟨oc24, od24, .func (PySem.W.fnOf "check_code" "check_code" (defArgs s_check_code) (defBody s_check_code) (defScope s_check_code) .none kV24 dc24 pm24 an24 cd24 ct24), sl24⟩)
    (c24 : PySem.W.codeIn K cd24 "check_code" = true)
    (k24 : PySem.W.keepIn K (.ref f24) = true)
    (l25 : K.lookup f25 = some ⟨oc25, od25, .func (PySem.W.fnOf "__init__" "Code.__init__" (defArgs s_Code___init__) (defBody s_Code___init__) (defScope s_Code___init__) .none kV25 dc25 pm25 an25 cd25 ct25), sl25⟩)
    (c25 : PySem.W.codeIn K cd25 "Code.__init__" = true)
    (k25 : PySem.W.keepIn K (.ref f25) = true)
    (a26 : PySem.W.nsIn K mainGlobals "law" = some (some (.ref f26)))
    (l26 : K.lookup f26 = some ⟨oc26, od26, .func (PySem.W.fnOf "law" "law" (defArgs s_law) (defBody s_law) (defScope s_law) .none kV26 dc26 pm26 an26 cd26 ct26), sl26⟩)
    (c26 : PySem.W.codeIn K cd26 "law" = true)
    (k26 : PySem.W.keepIn K (.ref f26) = true)
    (z_len : PySem.W.nsIn K mainGlobals "len" = some none)
    (z_abs : PySem.W.nsIn K mainGlobals "abs" = some none)
    (z_int : PySem.W.nsIn K mainGlobals "int" = some none)
    (z_min : PySem.W.nsIn K mainGlobals "min" = some none)
    (z_max : PySem.W.nsIn K mainGlobals "max" = some none)
    (z_sum : PySem.W.nsIn K mainGlobals "sum" = some none)
    (z_any : PySem.W.nsIn K mainGlobals "any" = some none)
    (z_all : PySem.W.nsIn K mainGlobals "all" = some none)
    (z_list : PySem.W.nsIn K mainGlobals "list" = some none)
    (z_sorted : PySem.W.nsIn K mainGlobals "sorted" = some none)
    (z_tuple : PySem.W.nsIn K mainGlobals "tuple" = some none)
    (z_range : PySem.W.nsIn K mainGlobals "range" = some none)
    (z_enumerate : PySem.W.nsIn K mainGlobals "enumerate" = some none)
    (z_zip : PySem.W.nsIn K mainGlobals "zip" = some none)
    (z_isinstance : PySem.W.nsIn K mainGlobals "isinstance" = some none)
    (z_bool : PySem.W.nsIn K mainGlobals "bool" = some none)
    (z_str : PySem.W.nsIn K mainGlobals "str" = some none)
    (z_dict : PySem.W.nsIn K mainGlobals "dict" = some none)
    (z_float : PySem.W.nsIn K mainGlobals "float" = some none)
    (z_reversed : PySem.W.nsIn K mainGlobals "reversed" = some none)
    (z_divmod : PySem.W.nsIn K mainGlobals "divmod" = some none)
    (ynBank : PySem.W.nsIn K mainGlobals "Bank" = some none)
    (yaCode : PySem.W.nsIn K mainGlobals "Code" = some (some (.ref yCode)))
    (ypCode : PySem.W.plainGet K yCode Str.empty = true)
    (ydCode : PySem.W.hasDictIn K yCode = true)
    (yoCode : PySem.W.plainOver K yCode = true)
    (ysCode : PySem.W.findIn K (.ref yCode) "__setattr__" = some (some (.builtin "object.__setattr__")))
    (yfCodewidth : PySem.W.findIn K (.ref yCode) "width" = some none)
    (yfCode_x_checks : PySem.W.findIn K (.ref yCode) "_x_checks" = some none)
    (yfCode_z_checks : PySem.W.findIn K (.ref yCode) "_z_checks" = some none)
    (yfCode_x_logicals : PySem.W.findIn K (.ref yCode) "_x_logicals" = some none)
    (yfCode_z_logicals : PySem.W.findIn K (.ref yCode) "_z_logicals" = some none)
    (ynShrunk : PySem.W.nsIn K mainGlobals "Shrunk" = some none)
    (ynDraft : PySem.W.nsIn K mainGlobals "Draft" = some none)
    (ynExperiment : PySem.W.nsIn K mainGlobals "Experiment" = some none)
    (ynGroups : PySem.W.nsIn K mainGlobals "Groups" = some none)
    (ynPair : PySem.W.nsIn K mainGlobals "Pair" = some none)
    (ynLedger : PySem.W.nsIn K mainGlobals "Ledger" = some none)
    (ynDecoding : PySem.W.nsIn K mainGlobals "Decoding" = some none)
    (ynMemory : PySem.W.nsIn K mainGlobals "Memory" = some none)
    (ynPlan : PySem.W.nsIn K mainGlobals "Plan" = some none)
    (ynState : PySem.W.nsIn K mainGlobals "State" = some none)
    (ynWatch : PySem.W.nsIn K mainGlobals "Watch" = some none)
    (ynStream : PySem.W.nsIn K mainGlobals "Stream" = some none)
    (ymCode : PySem.W.makesIn K yCode = true)
    (ykCode : PySem.W.keepIn K (.ref yCode) = true)
    (w14 : PySem.W.isFn K (.ref f14) = true)
    (g14 : PySem.W.findIn K (.ref yCode) "logical_pauli" = some (some (.ref f14)))
    (w15 : PySem.W.isFn K (.ref f15) = true)
    (g15 : PySem.W.findIn K (.ref yCode) "check_paulis" = some (some (.ref f15)))
    (w25 : PySem.W.isFn K (.ref f25) = true)
    (g25 : PySem.W.findIn K (.ref yCode) "__init__" = some (some (.ref f25)))
    (xa0 : PySem.W.nsIn K mainGlobals "BastionError" = some (some (.ref x0)))
    (xq0 : PySem.W.excIn K x0 [.type "ValueError", .type "Exception", .type "BaseException", .type "object"] "ValueError.__new__" = true)
    (xk0 : PySem.W.keepIn K (.ref x0) = true)
    (xs0 : PySem.W.subIn K (.ref x0) (.type "BaseException") = some true)
    (xt0 : PySem.W.typeIn K (.ref x0) = some (.type "type"))
    (xd0 : PySem.W.hasDictIn K x0 = true)
    (xg0 : PySem.W.findIn K (.ref x0) "__getattribute__" = some (some (.builtin "BaseException.__getattribute__")))
    (xh0 : PySem.W.findIn K (.ref x0) "__getattr__" = some none)
    (xc0 : PySem.W.findIn K (.ref x0) "__class__" = some (some (.builtin "object.__class__")))
    (xm0 : PySem.W.mroIn K x0 (.type "object") = some true)
    (xa1 : PySem.W.nsIn K mainGlobals "InvalidCode" = some (some (.ref x1)))
    (xq1 : PySem.W.excIn K x1 [.type "ValueError", .type "Exception", .type "BaseException", .type "object"] "ValueError.__new__" = true)
    (xk1 : PySem.W.keepIn K (.ref x1) = true)
    (xs1 : PySem.W.subIn K (.ref x1) (.type "BaseException") = some true)
    (xt1 : PySem.W.typeIn K (.ref x1) = some (.type "type"))
    (xd1 : PySem.W.hasDictIn K x1 = true)
    (xg1 : PySem.W.findIn K (.ref x1) "__getattribute__" = some (some (.builtin "BaseException.__getattribute__")))
    (xh1 : PySem.W.findIn K (.ref x1) "__getattr__" = some none)
    (xc1 : PySem.W.findIn K (.ref x1) "__class__" = some (some (.builtin "object.__class__")))
    (xm1 : PySem.W.mroIn K x1 (.type "object") = some true)
    (xn : PySem.W.specialIn K (.builtin "object.__class__") "__get__" = some (some (.builtin "getset_descriptor.__get__")))
    (xw : PySem.W.takesIn K (.builtin "object.__class__") = some true)
    (u0 : PySem.W.subIn K (.ref x1) (.ref x1) = some true)
    (v0 : PySem.W.kitOne K (.ref x1) (.ref x1) = some true)
    : ∃ fd : FuncData, (∀ (s : Shared) (v : Value), BindsTo s fd ⟨[v], []⟩ [("script", v)]) ∧ ∀ base : Heap, K.In base → base.Ns mainGlobals mg → FnOk l.prog w K mg base (L2.CX l.prog w) 8 fa fd ["script"] (Eng.spLaw K) := by
  have e := hfa.symm.trans (PySem.W.mg_of X G a26)
  cases e
  have F0 := fun_mk (st := s__law_pool) l0 c0 k0
  have B0 := F0.binds (ps := ["script"]) fun _ _ _ _ _ _ us hl => match us, hl with | [_], _ => rfl
  have M0 : mg "_law_pool" = some (.ref f0) := PySem.W.mg_of X G a0
  have F1 := fun_mk (st := s__law_spread) l1 c1 k1
  have B1 := F1.binds (ps := ["cell"]) fun _ _ _ _ _ _ us hl => match us, hl with | [_], _ => rfl
  have M1 : mg "_law_spread" = some (.ref f1) := PySem.W.mg_of X G a1
  have F2 := fun_mk (st := s__law_draw) l2 c2 k2
  have B2 := F2.binds (ps := ["pool", "many"]) fun _ _ _ _ _ _ us hl => match us, hl with | [_, _], _ => rfl
  have M2 : mg "_law_draw" = some (.ref f2) := PySem.W.mg_of X G a2
  have F3 := fun_mk (st := s__law_mix) l3 c3 k3
  have B3 := F3.binds (ps := ["pool", "lists"]) fun _ _ _ _ _ _ us hl => match us, hl with | [_, _], _ => rfl
  have M3 : mg "_law_mix" = some (.ref f3) := PySem.W.mg_of X G a3
  have F4 := fun_mk (st := s__law_code) l4 c4 k4
  have B4 := F4.binds (ps := ["pool"]) fun _ _ _ _ _ _ us hl => match us, hl with | [_], _ => rfl
  have M4 : mg "_law_code" = some (.ref f4) := PySem.W.mg_of X G a4
  have F5 := fun_mk (st := s__law_pauli) l5 c5 k5
  have B5 := F5.binds (ps := ["pool", "width"]) fun _ _ _ _ _ _ us hl => match us, hl with | [_, _], _ => rfl
  have M5 : mg "_law_pauli" = some (.ref f5) := PySem.W.mg_of X G a5
  have F6 := fun_mk (st := s__law_same) l6 c6 k6
  have B6 := F6.binds (ps := ["actual", "due"]) fun _ _ _ _ _ _ us hl => match us, hl with | [_, _], _ => rfl
  have M6 : mg "_law_same" = some (.ref f6) := PySem.W.mg_of X G a6
  have F7 := fun_mk (st := s__law_letter) l7 c7 k7
  have B7 := F7.binds (ps := ["p", "qubit"]) fun _ _ _ _ _ _ us hl => match us, hl with | [_, _], _ => rfl
  have M7 : mg "_law_letter" = some (.ref f7) := PySem.W.mg_of X G a7
  have F8 := fun_mk (st := s__law_times) l8 c8 k8
  have B8 := F8.binds (ps := ["a", "b"]) fun _ _ _ _ _ _ us hl => match us, hl with | [_, _], _ => rfl
  have M8 : mg "_law_times" = some (.ref f8) := PySem.W.mg_of X G a8
  have F9 := fun_mk (st := s__law_commute) l9 c9 k9
  have B9 := F9.binds (ps := ["a", "b"]) fun _ _ _ _ _ _ us hl => match us, hl with | [_, _], _ => rfl
  have M9 : mg "_law_commute" = some (.ref f9) := PySem.W.mg_of X G a9
  have F10 := fun_mk (st := s__law_lifted) l10 c10 k10
  have B10 := F10.binds (ps := ["lists", "p"]) fun _ _ _ _ _ _ us hl => match us, hl with | [_, _], _ => rfl
  have M10 : mg "_law_lifted" = some (.ref f10) := PySem.W.mg_of X G a10
  have F11 := fun_mk (st := s_weight) l11 c11 k11
  have B11 := F11.binds (ps := ["mask"]) fun _ _ _ _ _ _ us hl => match us, hl with | [_], _ => rfl
  have M11 : mg "weight" = some (.ref f11) := PySem.W.mg_of X G a11
  have F12 := fun_mk (st := s_pauli_mul) l12 c12 k12
  have B12 := F12.binds (ps := ["a", "b"]) fun _ _ _ _ _ _ us hl => match us, hl with | [_, _], _ => rfl
  have M12 : mg "pauli_mul" = some (.ref f12) := PySem.W.mg_of X G a12
  have F13 := fun_mk (st := s_product_of) l13 c13 k13
  have B13 := F13.binds (ps := ["paulis"]) fun _ _ _ _ _ _ us hl => match us, hl with | [_], _ => rfl
  have M13 : mg "product_of" = some (.ref f13) := PySem.W.mg_of X G a13
  have F14 := fun_mk (st := s_Code_logical_pauli) l14 c14 k14
  have B14 := F14.binds (ps := ["self", "p"]) fun _ _ _ _ _ _ us hl => match us, hl with | [_, _], _ => rfl
  have F15 := fun_mk (st := s_Code_check_paulis) l15 c15 k15
  have B15 := F15.binds (ps := ["self"]) fun _ _ _ _ _ _ us hl => match us, hl with | [_], _ => rfl
  have F16 := fun_mk (st := s_check_masks) l16 c16 k16
  have B16 := F16.binds (ps := ["width", "masks"]) fun _ _ _ _ _ _ us hl => match us, hl with | [_, _], _ => rfl
  have M16 : mg "check_masks" = some (.ref f16) := PySem.W.mg_of X G a16
  have F17 := fun_mk (st := s_parity) l17 c17 k17
  have B17 := F17.binds (ps := ["mask"]) fun _ _ _ _ _ _ us hl => match us, hl with | [_], _ => rfl
  have M17 : mg "parity" = some (.ref f17) := PySem.W.mg_of X G a17
  have F18 := fun_mk (st := s_parities) l18 c18 k18
  have B18 := F18.binds (ps := ["masks", "mask"]) fun _ _ _ _ _ _ us hl => match us, hl with | [_, _], _ => rfl
  have M18 : mg "parities" = some (.ref f18) := PySem.W.mg_of X G a18
  have F19 := fun_mk (st := s_check_pairs) l19 c19 k19
  have B19 := F19.binds (ps := ["x_logicals", "z_logicals"]) fun _ _ _ _ _ _ us hl => match us, hl with | [_, _], _ => rfl
  have M19 : mg "check_pairs" = some (.ref f19) := PySem.W.mg_of X G a19
  have F20 := fun_mk (st := s_all_even) l20 c20 k20
  have B20 := F20.binds (ps := ["masks", "others"]) fun _ _ _ _ _ _ us hl => match us, hl with | [_, _], _ => rfl
  have M20 : mg "all_even" = some (.ref f20) := PySem.W.mg_of X G a20
  have F21 := fun_mk (st := s_reduced) l21 c21 k21
  have B21 := F21.binds (ps := ["basis", "mask"]) fun _ _ _ _ _ _ us hl => match us, hl with | [_, _], _ => rfl
  have M21 : mg "reduced" = some (.ref f21) := PySem.W.mg_of X G a21
  have F22 := fun_mk (st := s_echelon) l22 c22 k22
  have B22 := F22.binds (ps := ["rows"]) fun _ _ _ _ _ _ us hl => match us, hl with | [_], _ => rfl
  have M22 : mg "echelon" = some (.ref f22) := PySem.W.mg_of X G a22
  have F23 := fun_mk (st := s_rank) l23 c23 k23
  have B23 := F23.binds (ps := ["rows"]) fun _ _ _ _ _ _ us hl => match us, hl with | [_], _ => rfl
  have M23 : mg "rank" = some (.ref f23) := PySem.W.mg_of X G a23
  have F24 := fun_mk (st := s_check_code) l24 c24 k24
  have B24 := F24.binds (ps := ["width", "x_checks", "z_checks", "x_logicals", "z_logicals"]) fun _ _ _ _ _ _ us hl => match us, hl with | [_, _, _, _, _], _ => rfl
  have M24 : mg "check_code" = some (.ref f24) := PySem.W.mg_of X G a24
  have F25 := fun_mk (st := s_Code___init__) l25 c25 k25
  have B25 := F25.binds (ps := ["self", "width", "x_checks", "z_checks", "x_logicals", "z_logicals"]) fun _ _ _ _ _ _ us hl => match us, hl with | [_, _, _, _, _, _], _ => rfl
  have F26 := fun_mk (st := s_law) l26 c26 k26
  have hbl : ∀ x ∈ (["len", "abs", "int", "min", "max", "sum", "any", "all", "list", "sorted", "tuple", "range", "enumerate", "zip", "isinstance", "bool", "str", "dict", "float", "reversed", "divmod"] : List Str), mg x = none := by
    intro x hx
    simp only [List.mem_cons, List.not_mem_nil, or_false] at hx
    rcases hx with rfl | rfl | rfl | rfl | rfl | rfl | rfl | rfl | rfl | rfl | rfl | rfl | rfl | rfl | rfl | rfl | rfl | rfl | rfl | rfl | rfl
    · exact PySem.W.mg_none_of X G z_len
    · exact PySem.W.mg_none_of X G z_abs
    · exact PySem.W.mg_none_of X G z_int
    · exact PySem.W.mg_none_of X G z_min
    · exact PySem.W.mg_none_of X G z_max
    · exact PySem.W.mg_none_of X G z_sum
    · exact PySem.W.mg_none_of X G z_any
    · exact PySem.W.mg_none_of X G z_all
    · exact PySem.W.mg_none_of X G z_list
    · exact PySem.W.mg_none_of X G z_sorted
    · exact PySem.W.mg_none_of X G z_tuple
    · exact PySem.W.mg_none_of X G z_range
    · exact PySem.W.mg_none_of X G z_enumerate
    · exact PySem.W.mg_none_of X G z_zip
    · exact PySem.W.mg_none_of X G z_isinstance
    · exact PySem.W.mg_none_of X G z_bool
    · exact PySem.W.mg_none_of X G z_str
    · exact PySem.W.mg_none_of X G z_dict
    · exact PySem.W.mg_none_of X G z_float
    · exact PySem.W.mg_none_of X G z_reversed
    · exact PySem.W.mg_none_of X G z_divmod
  have G0 : mg "BastionError" = some (.ref x0) := PySem.W.mg_of X G xa0
  have G1 : mg "InvalidCode" = some (.ref x1) := PySem.W.mg_of X G xa1
  have hmk : MkcOk K mg ["BastionError", "InvalidCode"] := (mkc_cons ⟨x0, _, _, _, _, PySem.F.excBase_ValueError, xq0, G0, xk0, fun X hX => by subst hX; exact raises_own xs0 xt0⟩ (mkc_cons ⟨x1, _, _, _, _, PySem.F.excBase_ValueError, xq1, G1, xk1, fun X hX => by subst hX; exact raises_own xs1 xt1⟩ mkc_nil))
  have hex : ExcOk K mg subTab := (exc_cons ⟨x1, x1, G1, G1, ⟨xg1, xh1, xs1, xd1, xc1, xn, xw, xm1⟩, PySem.W.exm_ref xs1 xd1 xt1 u0, v0⟩ exc_nil)
  have YCode : mg "Code" = some (.ref yCode) := PySem.W.mg_of X G yaCode
  have DCode : Cls K yCode := ⟨ypCode, ydCode, yoCode, ysCode⟩
  have hobj := obj_of (K := K) (mg := mg) (obj_no (PySem.W.mg_none_of X G ynBank) (obj_yes YCode DCode (na_cons yfCodewidth (na_cons yfCode_x_checks (na_cons yfCode_z_checks (na_cons yfCode_x_logicals (na_cons yfCode_z_logicals na_nil))))) (obj_no (PySem.W.mg_none_of X G ynShrunk) (obj_no (PySem.W.mg_none_of X G ynDraft) (obj_no (PySem.W.mg_none_of X G ynExperiment) (obj_no (PySem.W.mg_none_of X G ynGroups) (obj_no (PySem.W.mg_none_of X G ynPair) (obj_no (PySem.W.mg_none_of X G ynLedger) (obj_no (PySem.W.mg_none_of X G ynDecoding) (obj_no (PySem.W.mg_none_of X G ynMemory) (obj_no (PySem.W.mg_none_of X G ynPlan) (obj_no (PySem.W.mg_none_of X G ynState) (obj_no (PySem.W.mg_none_of X G ynWatch) (obj_no (PySem.W.mg_none_of X G ynStream) obj_nil))))))))))))))
  have hcs : CsOk K mg CS := cs_nil
  have hkd : KdT K w mg KD := kd_nil
  refine ⟨PySem.W.fnOf "law" "law" (defArgs s_law) (defBody s_law) (defScope s_law) .none kV26 dc26 pm26 an26 cd26 ct26, fun s v => .of_eq rfl, fun base _ _ => ?_⟩
  have C0 : Cal l.prog w K mg base 1 "_law_pool" Φ__law_pool := cal_of (E := E__law_pool) (Γ := Γ__law_pool) (lev := 0) F0 sc__law_pool rfl ⟨rfl, rfl, hbl, hcs, tab_nil, hobj, (fun _ _ _ => ms_nil), mak_nil, (fun f _ C hC => pp_nil C f hC), hkd, fv_nil, hmk, hex⟩ cb__law_pool B0 M0
  have C1 : Cal l.prog w K mg base 1 "_law_spread" Φ__law_spread := cal_of (E := E__law_spread) (Γ := Γ__law_spread) (lev := 0) F1 sc__law_spread rfl ⟨rfl, rfl, hbl, hcs, tab_nil, hobj, (fun _ _ _ => ms_nil), mak_nil, (fun f _ C hC => pp_nil C f hC), hkd, fv_nil, hmk, hex⟩ cb__law_spread B1 M1
  have C2 : Cal l.prog w K mg base 2 "_law_draw" Φ__law_draw := cal_of (E := E__law_draw) (Γ := Γ__law_draw) (lev := 1) F2 sc__law_draw rfl ⟨rfl, rfl, hbl, hcs, (tab_cons C1 (by decide) (G__law_draw__law_spread) tab_nil), hobj, (fun _ _ _ => ms_nil), mak_nil, (fun f _ C hC => pp_nil C f hC), hkd, fv_nil, hmk, hex⟩ cb__law_draw B2 M2
  have C3 : Cal l.prog w K mg base 3 "_law_mix" Φ__law_mix := cal_of (E := E__law_mix) (Γ := Γ__law_mix) (lev := 2) F3 sc__law_mix rfl ⟨rfl, rfl, hbl, hcs, (tab_cons C2 (by decide) (G__law_mix__law_draw) tab_nil), hobj, (fun _ _ _ => ms_nil), mak_nil, (fun f _ C hC => pp_nil C f hC), hkd, fv_nil, hmk, hex⟩ cb__law_mix B3 M3
  have C4 : Cal l.prog w K mg base 4 "_law_code" Φ__law_code := cal_of (E := E__law_code) (Γ := Γ__law_code) (lev := 3) F4 sc__law_code rfl ⟨rfl, rfl, hbl, hcs, (tab_cons C2 (by decide) (G__law_code__law_draw) (tab_cons C3 (by decide) (G__law_code__law_mix) tab_nil)), hobj, (fun _ _ _ => ms_nil), mak_nil, (fun f _ C hC => pp_nil C f hC), hkd, fv_nil, hmk, hex⟩ cb__law_code B4 M4
  have C5 : Cal l.prog w K mg base 3 "_law_pauli" Φ__law_pauli := cal_of (E := E__law_pauli) (Γ := Γ__law_pauli) (lev := 2) F5 sc__law_pauli rfl ⟨rfl, rfl, hbl, hcs, (tab_cons C2 (by decide) (G__law_pauli__law_draw) tab_nil), hobj, (fun _ _ _ => ms_nil), mak_nil, (fun f _ C hC => pp_nil C f hC), hkd, fv_nil, hmk, hex⟩ cb__law_pauli B5 M5
  have R6_0 : Cal l.prog w K mg base 1 "_law_same" (Φr__law_same 0) := ⟨⟨f6, fnI_no F6 sc__law_same B6, M6, F6.kp⟩⟩
  have R6_1 : Cal l.prog w K mg base 2 "_law_same" (Φr__law_same 1) := cal_of (E := E__law_same) (Γ := Γr__law_same (Φr__law_same 0)) (lev := 1) F6 sc__law_same rfl ⟨rfl, rfl, hbl, hcs, (tab_cons R6_0 (by decide) (G__law_same__law_same _) tab_nil), hobj, (fun _ _ _ => ms_nil), mak_nil, (fun f _ C hC => pp_nil C f hC), hkd, fv_nil, hmk, hex⟩ cb__law_same B6 M6
  have R6_2 : Cal l.prog w K mg base 3 "_law_same" (Φr__law_same 2) := cal_of (E := E__law_same) (Γ := Γr__law_same (Φr__law_same 1)) (lev := 2) F6 sc__law_same rfl ⟨rfl, rfl, hbl, hcs, (tab_cons R6_1 (by decide) (G__law_same__law_same _) tab_nil), hobj, (fun _ _ _ => ms_nil), mak_nil, (fun f _ C hC => pp_nil C f hC), hkd, fv_nil, hmk, hex⟩ cb__law_same B6 M6
  have R6_3 : Cal l.prog w K mg base 4 "_law_same" (Φr__law_same 3) := cal_of (E := E__law_same) (Γ := Γr__law_same (Φr__law_same 2)) (lev := 3) F6 sc__law_same rfl ⟨rfl, rfl, hbl, hcs, (tab_cons R6_2 (by decide) (G__law_same__law_same _) tab_nil), hobj, (fun _ _ _ => ms_nil), mak_nil, (fun f _ C hC => pp_nil C f hC), hkd, fv_nil, hmk, hex⟩ cb__law_same B6 M6
  have R6_4 : Cal l.prog w K mg base 5 "_law_same" (Φr__law_same 4) := cal_of (E := E__law_same) (Γ := Γr__law_same (Φr__law_same 3)) (lev := 4) F6 sc__law_same rfl ⟨rfl, rfl, hbl, hcs, (tab_cons R6_3 (by decide) (G__law_same__law_same _) tab_nil), hobj, (fun _ _ _ => ms_nil), mak_nil, (fun f _ C hC => pp_nil C f hC), hkd, fv_nil, hmk, hex⟩ cb__law_same B6 M6
  have R6_5 : Cal l.prog w K mg base 6 "_law_same" (Φr__law_same 5) := cal_of (E := E__law_same) (Γ := Γr__law_same (Φr__law_same 4)) (lev := 5) F6 sc__law_same rfl ⟨rfl, rfl, hbl, hcs, (tab_cons R6_4 (by decide) (G__law_same__law_same _) tab_nil), hobj, (fun _ _ _ => ms_nil), mak_nil, (fun f _ C hC => pp_nil C f hC), hkd, fv_nil, hmk, hex⟩ cb__law_same B6 M6
  have R6_6 : Cal l.prog w K mg base 7 "_law_same" (Φr__law_same 6) := cal_of (E := E__law_same) (Γ := Γr__law_same (Φr__law_same 5)) (lev := 6) F6 sc__law_same rfl ⟨rfl, rfl, hbl, hcs, (tab_cons R6_5 (by decide) (G__law_same__law_same _) tab_nil), hobj, (fun _ _ _ => ms_nil), mak_nil, (fun f _ C hC => pp_nil C f hC), hkd, fv_nil, hmk, hex⟩ cb__law_same B6 M6
  have C6 : Cal l.prog w K mg base 7 "_law_same" Φ__law_same := R6_6
  have C7 : Cal l.prog w K mg base 1 "_law_letter" Φ__law_letter := cal_of (E := E__law_letter) (Γ := Γ__law_letter) (lev := 0) F7 sc__law_letter rfl ⟨rfl, rfl, hbl, hcs, tab_nil, hobj, (fun _ _ _ => ms_nil), mak_nil, (fun f _ C hC => pp_nil C f hC), hkd, fv_nil, hmk, hex⟩ cb__law_letter B7 M7
  have C8 : Cal l.prog w K mg base 2 "_law_times" Φ__law_times := cal_of (E := E__law_times) (Γ := Γ__law_times) (lev := 1) F8 sc__law_times rfl ⟨rfl, rfl, hbl, hcs, (tab_cons C7 (by decide) (G__law_times__law_letter) tab_nil), hobj, (fun _ _ _ => ms_nil), mak_nil, (fun f _ C hC => pp_nil C f hC), hkd, fv_nil, hmk, hex⟩ cb__law_times B8 M8
  have C9 : Cal l.prog w K mg base 2 "_law_commute" Φ__law_commute := cal_of (E := E__law_commute) (Γ := Γ__law_commute) (lev := 1) F9 sc__law_commute rfl ⟨rfl, rfl, hbl, hcs, (tab_cons C7 (by decide) (G__law_commute__law_letter) tab_nil), hobj, (fun _ _ _ => ms_nil), mak_nil, (fun f _ C hC => pp_nil C f hC), hkd, fv_nil, hmk, hex⟩ cb__law_commute B9 M9
  have C10 : Cal l.prog w K mg base 3 "_law_lifted" Φ__law_lifted := cal_of (E := E__law_lifted) (Γ := Γ__law_lifted) (lev := 2) F10 sc__law_lifted rfl ⟨rfl, rfl, hbl, hcs, (tab_cons C7 (by decide) (G__law_lifted__law_letter) (tab_cons C8 (by decide) (G__law_lifted__law_times) tab_nil)), hobj, (fun _ _ _ => ms_nil), mak_nil, (fun f _ C hC => pp_nil C f hC), hkd, fv_nil, hmk, hex⟩ cb__law_lifted B10 M10
  have C11 : Cal l.prog w K mg base 1 "weight" Φ_weight := cal_of (E := E_weight) (Γ := Γ_weight) (lev := 0) F11 sc_weight rfl ⟨rfl, rfl, hbl, hcs, tab_nil, hobj, (fun _ _ _ => ms_nil), mak_nil, (fun f _ C hC => pp_nil C f hC), hkd, fv_nil, hmk, hex⟩ cb_weight B11 M11
  have C12 : Cal l.prog w K mg base 2 "pauli_mul" Φ_pauli_mul := cal_of (E := E_pauli_mul) (Γ := Γ_pauli_mul) (lev := 1) F12 sc_pauli_mul rfl ⟨rfl, rfl, hbl, hcs, (tab_cons C11 (by decide) (G_pauli_mul_weight) tab_nil), hobj, (fun _ _ _ => ms_nil), mak_nil, (fun f _ C hC => pp_nil C f hC), hkd, fv_nil, hmk, hex⟩ cb_pauli_mul B12 M12
  have C13 : Cal l.prog w K mg base 3 "product_of" Φ_product_of := cal_of (E := E_product_of) (Γ := Γ_product_of) (lev := 2) F13 sc_product_of rfl ⟨rfl, rfl, hbl, hcs, (tab_cons C12 (by decide) (G_product_of_pauli_mul) tab_nil), hobj, (fun _ _ _ => ms_nil), mak_nil, (fun f _ C hC => pp_nil C f hC), hkd, fv_nil, hmk, hex⟩ cb_product_of B13 M13
  have I14 : FnI l.prog w K mg base 4 f14 Φ_Code_logical_pauli := fnI_of (E := E_Code_logical_pauli) (Γ := Γ_Code_logical_pauli) (lev := 3) F14 sc_Code_logical_pauli rfl ⟨rfl, rfl, hbl, hcs, (tab_cons C13 (by decide) (G_Code_logical_pauli_product_of) (tab_cons C12 (by decide) (G_Code_logical_pauli_pauli_mul) tab_nil)), hobj, (fun _ _ _ => ms_nil), mak_nil, (fun f _ C hC => pp_nil C f hC), hkd, fv_nil, hmk, hex⟩ cb_Code_logical_pauli B14
  have I15 : FnI l.prog w K mg base 1 f15 Φ_Code_check_paulis := fnI_of (E := E_Code_check_paulis) (Γ := Γ_Code_check_paulis) (lev := 0) F15 sc_Code_check_paulis rfl ⟨rfl, rfl, hbl, hcs, tab_nil, hobj, (fun _ _ _ => ms_nil), mak_nil, (fun f _ C hC => pp_nil C f hC), hkd, fv_nil, hmk, hex⟩ cb_Code_check_paulis B15
  have C16 : Cal l.prog w K mg base 1 "check_masks" Φ_check_masks := cal_of (E := E_check_masks) (Γ := Γ_check_masks) (lev := 0) F16 sc_check_masks rfl ⟨rfl, rfl, hbl, hcs, tab_nil, hobj, (fun _ _ _ => ms_nil), mak_nil, (fun f _ C hC => pp_nil C f hC), hkd, fv_nil, hmk, hex⟩ cb_check_masks B16 M16
  have C17 : Cal l.prog w K mg base 2 "parity" Φ_parity := cal_of (E := E_parity) (Γ := Γ_parity) (lev := 1) F17 sc_parity rfl ⟨rfl, rfl, hbl, hcs, (tab_cons C11 (by decide) (G_parity_weight) tab_nil), hobj, (fun _ _ _ => ms_nil), mak_nil, (fun f _ C hC => pp_nil C f hC), hkd, fv_nil, hmk, hex⟩ cb_parity B17 M17
  have C18 : Cal l.prog w K mg base 3 "parities" Φ_parities := cal_of (E := E_parities) (Γ := Γ_parities) (lev := 2) F18 sc_parities rfl ⟨rfl, rfl, hbl, hcs, (tab_cons C17 (by decide) (G_parities_parity) tab_nil), hobj, (fun _ _ _ => ms_nil), mak_nil, (fun f _ C hC => pp_nil C f hC), hkd, fv_nil, hmk, hex⟩ cb_parities B18 M18
  have C19 : Cal l.prog w K mg base 4 "check_pairs" Φ_check_pairs := cal_of (E := E_check_pairs) (Γ := Γ_check_pairs) (lev := 3) F19 sc_check_pairs rfl ⟨rfl, rfl, hbl, hcs, (tab_cons C18 (by decide) (G_check_pairs_parities) tab_nil), hobj, (fun _ _ _ => ms_nil), mak_nil, (fun f _ C hC => pp_nil C f hC), hkd, fv_nil, hmk, hex⟩ cb_check_pairs B19 M19
  have C20 : Cal l.prog w K mg base 4 "all_even" Φ_all_even := cal_of (E := E_all_even) (Γ := Γ_all_even) (lev := 3) F20 sc_all_even rfl ⟨rfl, rfl, hbl, hcs, (tab_cons C18 (by decide) (G_all_even_parities) tab_nil), hobj, (fun _ _ _ => ms_nil), mak_nil, (fun f _ C hC => pp_nil C f hC), hkd, fv_nil, hmk, hex⟩ cb_all_even B20 M20
  have C21 : Cal l.prog w K mg base 1 "reduced" Φ_reduced := cal_of (E := E_reduced) (Γ := Γ_reduced) (lev := 0) F21 sc_reduced rfl ⟨rfl, rfl, hbl, hcs, tab_nil, hobj, (fun _ _ _ => ms_nil), mak_nil, (fun f _ C hC => pp_nil C f hC), hkd, fv_nil, hmk, hex⟩ cb_reduced B21 M21
  have C22 : Cal l.prog w K mg base 2 "echelon" Φ_echelon := cal_of (E := E_echelon) (Γ := Γ_echelon) (lev := 1) F22 sc_echelon rfl ⟨rfl, rfl, hbl, hcs, (tab_cons C21 (by decide) (G_echelon_reduced) tab_nil), hobj, (fun _ _ _ => ms_nil), mak_nil, (fun f _ C hC => pp_nil C f hC), hkd, fv_nil, hmk, hex⟩ cb_echelon B22 M22
  have C23 : Cal l.prog w K mg base 3 "rank" Φ_rank := cal_of (E := E_rank) (Γ := Γ_rank) (lev := 2) F23 sc_rank rfl ⟨rfl, rfl, hbl, hcs, (tab_cons C22 (by decide) (G_rank_echelon) tab_nil), hobj, (fun _ _ _ => ms_nil), mak_nil, (fun f _ C hC => pp_nil C f hC), hkd, fv_nil, hmk, hex⟩ cb_rank B23 M23
  have C24 : Cal l.prog w K mg base 5 "check_code" Φ_check_code := cal_of (E := E_check_code) (Γ := Γ_check_code) (lev := 4) F24 sc_check_code rfl ⟨rfl, rfl, hbl, hcs, (tab_cons C16 (by decide) (G_check_code_check_masks) (tab_cons C19 (by decide) (G_check_code_check_pairs) (tab_cons C20 (by decide) (G_check_code_all_even) (tab_cons C23 (by decide) (G_check_code_rank) tab_nil)))), hobj, (fun _ _ _ => ms_nil), mak_nil, (fun f _ C hC => pp_nil C f hC), hkd, fv_nil, hmk, hex⟩ cb_check_code B24 M24
  have I25 : FnI l.prog w K mg base 6 f25 Φ_Code___init__ := fnI_of (E := E_Code___init__) (Γ := Γ_Code___init__) (lev := 5) F25 sc_Code___init__ rfl ⟨rfl, rfl, hbl, hcs, (tab_cons C24 (by decide) (G_Code___init___check_code) tab_nil), hobj, (fun _ _ _ => ms_nil), mak_nil, (fun f _ C hC => pp_nil C f hC), hkd, fv_nil, hmk, hex⟩ cb_Code___init__ B25
  exact law_okP (Φ := Φ_law) (def_okP (E := E_law) (Γ := Γ_law) (lev := 7) F26 sc_law rfl ⟨rfl, rfl, hbl, hcs, (tab_cons C0 (by decide) (G_law__law_pool) (tab_cons C4 (by decide) (G_law__law_code) (tab_cons C5 (by decide) (G_law__law_pauli) (tab_cons C6 (by decide) (G_law__law_same) (tab_cons C8 (by decide) (G_law__law_times) (tab_cons C9 (by decide) (G_law__law_commute) (tab_cons C10 (by decide) (G_law__law_lifted) tab_nil))))))), hobj, (fun _ _ _ => (ms_cons I14 (by decide) (G_law_Code_logical_pauli) (by decide) YCode DCode ⟨g14, w14, k14⟩ (ms_cons I15 (by decide) (G_law_Code_check_paulis) (by decide) YCode DCode ⟨g15, w15, k15⟩ ms_nil))), (mak_cons I25 (by decide) (G_law_Code___init__) YCode ⟨ymCode, g25, w25, ykCode⟩ mak_nil), (fun f _ C hC => pp_nil C f hC), hkd, fv_nil, hmk, hex⟩ cb_law) law_run
end Pf
open PySem PySem.W PyProof.Rows
set_option maxHeartbeats 0 in
theorem PySem.Challenge.cw_bastion_k23_logical_operators_holds : PySem.Challenge.rw_bastion_k23_logical_operators.Holds := by
  w_on; o_law; k_head; (case hw => w_witness2)
  k_fill
  refine L2.walk_of (l := PySem.Challenge.rw_bastion_k23_logical_operators) (n := 63) (k := 8) (x := "script") (CX := fun w => L2.CX (PySem.Challenge.rw_bastion_k23_logical_operators).prog w) (sp := fun w => Eng.spLaw _) rfl (by decide) rfl ⟨rfl, by decide, by decide⟩ (fun w h Y => PySem.W.kIn_of Y) ?F (fun _ _ a ns hl _ hS => ⟨a, ns, rfl, hS, hl, fun _ => rfl⟩) (fun _ _ _ _ _ h => Pz.cx_no h)
  case F =>
    intro w mg fa h KX G hmg
    refine' Pf.all_mk KX G hmg ?a0 ?l0 ?c0 ?k0 ?a1 ?l1 ?c1 ?k1 ?a2 ?l2 ?c2 ?k2 ?a3 ?l3 ?c3 ?k3 ?a4 ?l4 ?c4 ?k4 ?a5 ?l5 ?c5 ?k5 ?a6 ?l6 ?c6 ?k6 ?a7 ?l7 ?c7 ?k7 ?a8 ?l8 ?c8 ?k8 ?a9 ?l9 ?c9 ?k9 ?a10 ?l10 ?c10 ?k10 ?a11 ?l11 ?c11 ?k11 ?a12 ?l12 ?c12 ?k12 ?a13 ?l13 ?c13 ?k13 ?l14 ?c14 ?k14 ?l15 ?c15 ?k15 ?a16 ?l16 ?c16 ?k16 ?a17 ?l17 ?c17 ?k17 ?a18 ?l18 ?c18 ?k18 ?a19 ?l19 ?c19 ?k19 ?a20 ?l20 ?c20 ?k20 ?a21 ?l21 ?c21 ?k21 ?a22 ?l22 ?c22 ?k22 ?a23 ?l23 ?c23 ?k23 ?a24 ?l24 ?c24 ?k24 ?l25 ?c25 ?k25 ?a26 ?l26 ?c26 ?k26 ?z_len ?z_abs ?z_int ?z_min ?z_max ?z_sum ?z_any ?z_all ?z_list ?z_sorted ?z_tuple ?z_range ?z_enumerate ?z_zip ?z_isinstance ?z_bool ?z_str ?z_dict ?z_float ?z_reversed ?z_divmod ?ynBank ?yaCode ?ypCode ?ydCode ?yoCode ?ysCode ?yfCodewidth ?yfCode_x_checks ?yfCode_z_checks ?yfCode_x_logicals ?yfCode_z_logicals ?ynShrunk ?ynDraft ?ynExperiment ?ynGroups ?ynPair ?ynLedger ?ynDecoding ?ynMemory ?ynPlan ?ynState ?ynWatch ?ynStream ?ymCode ?ykCode ?w14 ?g14 ?w15 ?g15 ?w25 ?g25 ?xa0 ?xq0 ?xk0 ?xs0 ?xt0 ?xd0 ?xg0 ?xh0 ?xc0 ?xm0 ?xa1 ?xq1 ?xk1 ?xs1 ?xt1 ?xd1 ?xg1 ?xh1 ?xc1 ?xm1 ?xn ?xw ?u0 ?v0
    (case a0 => k_is); (case a1 => k_is); (case a2 => k_is); (case a3 => k_is); (case a4 => k_is); (case a5 => k_is); (case a6 => k_is); (case a7 => k_is); (case a8 => k_is); (case a9 => k_is); (case a10 => k_is); (case a11 => k_is); (case a12 => k_is); (case a13 => k_is); (case a16 => k_is); (case a17 => k_is); (case a18 => k_is); (case a19 => k_is); (case a20 => k_is); (case a21 => k_is); (case a22 => k_is); (case a23 => k_is); (case a24 => k_is); (case a26 => k_is); (case yaCode => first | k_is | rfl | kernel_rfl); (case xa0 => k_is); (case xa1 => k_is); (case g14 => first | k_is | rfl | kernel_rfl); (case g15 => first | k_is | rfl | kernel_rfl); (case g25 => first | k_is | rfl | kernel_rfl); (case l0 => k_is); (case c0 => k_is); (case k0 => first | k_is | rfl | kernel_rfl); (case l1 => k_is); (case c1 => k_is); (case k1 => first | k_is | rfl | kernel_rfl); (case l2 => k_is); (case c2 => k_is); (case k2 => first | k_is | rfl | kernel_rfl); (case l3 => k_is); (case c3 => k_is); (case k3 => first | k_is | rfl | kernel_rfl); (case l4 => k_is); (case c4 => k_is); (case k4 => first | k_is | rfl | kernel_rfl); (case l5 => k_is); (case c5 => k_is); (case k5 => first | k_is | rfl | kernel_rfl); (case l6 => k_is); (case c6 => k_is); (case k6 => first | k_is | rfl | kernel_rfl); (case l7 => k_is); (case c7 => k_is); (case k7 => first | k_is | rfl | kernel_rfl); (case l8 => k_is); (case c8 => k_is); (case k8 => first | k_is | rfl | kernel_rfl); (case l9 => k_is); (case c9 => k_is); (case k9 => first | k_is | rfl | kernel_rfl); (case l10 => k_is); (case c10 => k_is); (case k10 => first | k_is | rfl | kernel_rfl); (case l11 => k_is); (case c11 => k_is); (case k11 => first | k_is | rfl | kernel_rfl); (case l12 => k_is); (case c12 => k_is); (case k12 => first | k_is | rfl | kernel_rfl); (case l13 => k_is); (case c13 => k_is); (case k13 => first | k_is | rfl | kernel_rfl); (case l14 => k_is); (case c14 => k_is); (case k14 => first | k_is | rfl | kernel_rfl); (case l15 => k_is); (case c15 => k_is); (case k15 => first | k_is | rfl | kernel_rfl); (case l16 => k_is); (case c16 => k_is); (case k16 => first | k_is | rfl | kernel_rfl); (case l17 => k_is); (case c17 => k_is); (case k17 => first | k_is | rfl | kernel_rfl); (case l18 => k_is); (case c18 => k_is); (case k18 => first | k_is | rfl | kernel_rfl); (case l19 => k_is); (case c19 => k_is); (case k19 => first | k_is | rfl | kernel_rfl); (case l20 => k_is); (case c20 => k_is); (case k20 => first | k_is | rfl | kernel_rfl); (case l21 => k_is); (case c21 => k_is); (case k21 => first | k_is | rfl | kernel_rfl); (case l22 => k_is); (case c22 => k_is); (case k22 => first | k_is | rfl | kernel_rfl); (case l23 => k_is); (case c23 => k_is); (case k23 => first | k_is | rfl | kernel_rfl); (case l24 => k_is); (case c24 => k_is); (case k24 => first | k_is | rfl | kernel_rfl); (case l25 => k_is); (case c25 => k_is); (case k25 => first | k_is | rfl | kernel_rfl); (case l26 => k_is); (case c26 => k_is); (case k26 => first | k_is | rfl | kernel_rfl); (case z_len => k_is); (case z_abs => k_is); (case z_int => k_is); (case z_min => k_is); (case z_max => k_is); (case z_sum => k_is); (case z_any => k_is); (case z_all => k_is); (case z_list => k_is); (case z_sorted => k_is); (case z_tuple => k_is); (case z_range => k_is); (case z_enumerate => k_is); (case z_zip => k_is); (case z_isinstance => k_is); (case z_bool => k_is); (case z_str => k_is); (case z_dict => k_is); (case z_float => k_is); (case z_reversed => k_is); (case z_divmod => k_is); (case ynBank => first | k_is | rfl | kernel_rfl); (case ypCode => first | k_is | rfl | kernel_rfl); (case ydCode => first | k_is | rfl | kernel_rfl); (case yoCode => first | k_is | rfl | kernel_rfl); (case ysCode => first | k_is | rfl | kernel_rfl); (case yfCodewidth => first | k_is | rfl | kernel_rfl); (case yfCode_x_checks => first | k_is | rfl | kernel_rfl); (case yfCode_z_checks => first | k_is | rfl | kernel_rfl); (case yfCode_x_logicals => first | k_is | rfl | kernel_rfl); (case yfCode_z_logicals => first | k_is | rfl | kernel_rfl); (case ynShrunk => first | k_is | rfl | kernel_rfl); (case ynDraft => first | k_is | rfl | kernel_rfl); (case ynExperiment => first | k_is | rfl | kernel_rfl); (case ynGroups => first | k_is | rfl | kernel_rfl); (case ynPair => first | k_is | rfl | kernel_rfl); (case ynLedger => first | k_is | rfl | kernel_rfl); (case ynDecoding => first | k_is | rfl | kernel_rfl); (case ynMemory => first | k_is | rfl | kernel_rfl); (case ynPlan => first | k_is | rfl | kernel_rfl); (case ynState => first | k_is | rfl | kernel_rfl); (case ynWatch => first | k_is | rfl | kernel_rfl); (case ynStream => first | k_is | rfl | kernel_rfl); (case ymCode => first | k_is | rfl | kernel_rfl); (case ykCode => first | k_is | rfl | kernel_rfl); (case w14 => first | k_is | rfl | kernel_rfl); (case w15 => first | k_is | rfl | kernel_rfl); (case w25 => first | k_is | rfl | kernel_rfl); (case xq0 => first | k_is | rfl | decide +kernel | kernel_rfl); (case xk0 => k_is); (case xs0 => k_is); (case xt0 => k_is); (case xd0 => k_is); (case xg0 => k_is); (case xh0 => k_is); (case xc0 => k_is); (case xm0 => k_is); (case xq1 => first | k_is | rfl | decide +kernel | kernel_rfl); (case xk1 => k_is); (case xs1 => k_is); (case xt1 => k_is); (case xd1 => k_is); (case xg1 => k_is); (case xh1 => k_is); (case xc1 => k_is); (case xm1 => k_is); (case xn => k_is); (case xw => k_is); (case u0 => k_is); (case v0 => first | k_is | rfl | decide +kernel | kernel_rfl)

