/-
  DERIVED. GIVEN WITH THE SEED: THE PROGRAM's TIES (one call each: nine closed facts by the kernel) AND EACH ROW's TIE, after the 31st guide's Derived/Test/Toyas{Tie, Card}.lean. No idea stands in it: it is a product of the set-up. Laid BY PROGRAM, IN A SANDBOX (cutbox-door.mjs). By AI agents, Wed Nov 11 2026. No macro, syntax, notation, axiom, sorry.
-/
import Derived.Test.YtnakejhohdbfdabGreatDoorRows
import Derived.LaidByTextLater
import Derived.SevenTiedAt
import Derived.LaidSub
import Derived.LaidOnce
namespace Go.Proofs.YtnakejhohdbfdabGreatDoor
open Go
set_option maxRecDepth 100000
theorem seatTie1 : Tryz.prog.laidByTextLater [("unicode/utf8.acceptRanges", Rows.laid_unicode_utf8_acceptRanges), ("errors.errorType", Rows.laid_errors_errorType), ("caret/runes.lowClasses", Rows.laid_caret_runes_lowClasses), ("caret/runes.highClasses", Rows.laid_caret_runes_highClasses), ("caret/runes.kinds", Rows.laid_caret_runes_kinds), ("caret/setups.errRange", Rows.laid_caret_setups_errRange)] [.data, .handle, .data, .data, .data, .sentinel] true :=
  Program.laidByTextLater_by_one 216 8 106 (by kernel_rfl) (by kernel_rfl) (by kernel_rfl) (by kernel_rfl) (by kernel_rfl) (by kernel_rfl) (fun _ _ => by kernel_rfl)
theorem seatTie2 : Tryz.prog.laidByTextLater [("unicode/utf8.acceptRanges", Rows.laid_unicode_utf8_acceptRanges), ("errors.errorType", Rows.laid_errors_errorType), ("caret/runes.lowClasses", Rows.laid_caret_runes_lowClasses), ("caret/runes.highClasses", Rows.laid_caret_runes_highClasses), ("caret/runes.kinds", Rows.laid_caret_runes_kinds), ("caret/setups.errCount", Rows.laid_caret_setups_errCount), ("caret/setups.errRange", Rows.laid_caret_setups_errRange), ("caret/setups.errPlace", Rows.laid_caret_setups_errPlace), ("caret/setups.errRising", Rows.laid_caret_setups_errRising)] [.data, .handle, .data, .data, .data, .sentinel, .sentinel, .sentinel, .sentinel] true :=
  Program.laidByTextLater_by_one 216 8 106 (by kernel_rfl) (by kernel_rfl) (by kernel_rfl) (by kernel_rfl) (by kernel_rfl) (by kernel_rfl) (fun _ _ => by kernel_rfl)
theorem seatTie3 : Tryz.prog.laidByTextLater [("errors.errorType", Rows.laid_errors_errorType), ("caret/runes.lowClasses", Rows.laid_caret_runes_lowClasses), ("caret/runes.highClasses", Rows.laid_caret_runes_highClasses), ("caret/runes.kinds", Rows.laid_caret_runes_kinds), ("caret/setups.errCount", Rows.laid_caret_setups_errCount), ("caret/setups.errRange", Rows.laid_caret_setups_errRange), ("caret/setups.errPlace", Rows.laid_caret_setups_errPlace), ("caret/setups.errRising", Rows.laid_caret_setups_errRising)] [.handle, .data, .data, .data, .sentinel, .sentinel, .sentinel, .sentinel] true :=
  Program.laidByTextLater_by_one 216 8 106 (by kernel_rfl) (by kernel_rfl) (by kernel_rfl) (by kernel_rfl) (by kernel_rfl) (by kernel_rfl) (fun _ _ => by kernel_rfl)
theorem pin_laid_unicode_utf8_first : Tryz.pinned.checked.prog.pinnedFits "unicode/utf8.first" = true := by kernel_rfl
theorem noOwnUnsafe : Tryz.pinned.checked.prog.headLifts.contains "ownunsafe" = false := by kernel_rfl
theorem fits1 : Tryz.pinned.checked.prog.listedFits [("unicode/utf8.acceptRanges", Rows.laid_unicode_utf8_acceptRanges), ("errors.errorType", Rows.laid_errors_errorType), ("caret/runes.lowClasses", Rows.laid_caret_runes_lowClasses), ("caret/runes.highClasses", Rows.laid_caret_runes_highClasses), ("caret/runes.kinds", Rows.laid_caret_runes_kinds), ("caret/setups.errRange", Rows.laid_caret_setups_errRange), ("unicode/utf8.first", Rows.laid_unicode_utf8_first)] = true := by
  unfold Program.listedFits
  rw [noOwnUnsafe]
  kernel_rfl
theorem tie : Tryz.prog.laidByTextLater [("unicode/utf8.acceptRanges", Rows.laid_unicode_utf8_acceptRanges), ("errors.errorType", Rows.laid_errors_errorType), ("caret/runes.lowClasses", Rows.laid_caret_runes_lowClasses), ("caret/runes.highClasses", Rows.laid_caret_runes_highClasses), ("caret/runes.kinds", Rows.laid_caret_runes_kinds), ("caret/setups.errRange", Rows.laid_caret_setups_errRange)] [.data, .handle, .data, .data, .data, .sentinel] true :=
  Program.laidByTextLater.sub seatTie1 ["unicode/utf8.acceptRanges", "errors.errorType", "caret/runes.lowClasses", "caret/runes.highClasses", "caret/runes.kinds", "caret/setups.errRange"] (by kernel_rfl) (by kernel_rfl)
theorem documents_row_tie : Rows.documentsRow.laidByTextAt .later Tryz.pinned [.data, .handle, .data, .data, .data, .sentinel, .pinned] true :=
  OpenClaim.laidByTextAt_pinned rfl rfl tie rfl rfl rfl rfl (fun y hy _e => by
    simp only [Rows.documentsRow, List.zip_cons_cons, List.zip_nil_right, List.mem_cons, List.mem_nil_iff, or_false] at hy
    rcases hy with rfl | rfl | rfl | rfl | rfl | rfl | rfl
    · cases _e
    · cases _e
    · cases _e
    · cases _e
    · cases _e
    · cases _e
    · exact ⟨pin_laid_unicode_utf8_first, by kernel_rfl⟩) fits1
theorem fits2 : Tryz.pinned.checked.prog.listedFits [("unicode/utf8.acceptRanges", Rows.laid_unicode_utf8_acceptRanges), ("errors.errorType", Rows.laid_errors_errorType), ("caret/runes.lowClasses", Rows.laid_caret_runes_lowClasses), ("caret/runes.highClasses", Rows.laid_caret_runes_highClasses), ("caret/runes.kinds", Rows.laid_caret_runes_kinds), ("caret/setups.errCount", Rows.laid_caret_setups_errCount), ("caret/setups.errRange", Rows.laid_caret_setups_errRange), ("caret/setups.errPlace", Rows.laid_caret_setups_errPlace), ("caret/setups.errRising", Rows.laid_caret_setups_errRising), ("unicode/utf8.first", Rows.laid_unicode_utf8_first)] = true := by
  unfold Program.listedFits
  rw [noOwnUnsafe]
  kernel_rfl
theorem tie2 : Tryz.prog.laidByTextLater [("unicode/utf8.acceptRanges", Rows.laid_unicode_utf8_acceptRanges), ("errors.errorType", Rows.laid_errors_errorType), ("caret/runes.lowClasses", Rows.laid_caret_runes_lowClasses), ("caret/runes.highClasses", Rows.laid_caret_runes_highClasses), ("caret/runes.kinds", Rows.laid_caret_runes_kinds), ("caret/setups.errCount", Rows.laid_caret_setups_errCount), ("caret/setups.errRange", Rows.laid_caret_setups_errRange), ("caret/setups.errPlace", Rows.laid_caret_setups_errPlace), ("caret/setups.errRising", Rows.laid_caret_setups_errRising)] [.data, .handle, .data, .data, .data, .sentinel, .sentinel, .sentinel, .sentinel] true :=
  Program.laidByTextLater.sub seatTie2 ["unicode/utf8.acceptRanges", "errors.errorType", "caret/runes.lowClasses", "caret/runes.highClasses", "caret/runes.kinds", "caret/setups.errCount", "caret/setups.errRange", "caret/setups.errPlace", "caret/setups.errRising"] (by kernel_rfl) (by kernel_rfl)
theorem all_row_tie : Rows.allRow.laidByTextAt .later Tryz.pinned [.data, .handle, .data, .data, .data, .sentinel, .sentinel, .sentinel, .sentinel, .pinned] true :=
  OpenClaim.laidByTextAt_pinned rfl rfl tie2 rfl rfl rfl rfl (fun y hy _e => by
    simp only [Rows.allRow, List.zip_cons_cons, List.zip_nil_right, List.mem_cons, List.mem_nil_iff, or_false] at hy
    rcases hy with rfl | rfl | rfl | rfl | rfl | rfl | rfl | rfl | rfl | rfl
    · cases _e
    · cases _e
    · cases _e
    · cases _e
    · cases _e
    · cases _e
    · cases _e
    · cases _e
    · cases _e
    · exact ⟨pin_laid_unicode_utf8_first, by kernel_rfl⟩) fits2
theorem tie3 : Tryz.prog.laidByTextLater [("errors.errorType", Rows.laid_errors_errorType), ("caret/runes.lowClasses", Rows.laid_caret_runes_lowClasses), ("caret/runes.highClasses", Rows.laid_caret_runes_highClasses), ("caret/runes.kinds", Rows.laid_caret_runes_kinds), ("caret/setups.errCount", Rows.laid_caret_setups_errCount), ("caret/setups.errRange", Rows.laid_caret_setups_errRange), ("caret/setups.errPlace", Rows.laid_caret_setups_errPlace), ("caret/setups.errRising", Rows.laid_caret_setups_errRising)] [.handle, .data, .data, .data, .sentinel, .sentinel, .sentinel, .sentinel] true :=
  Program.laidByTextLater.sub seatTie3 ["errors.errorType", "caret/runes.lowClasses", "caret/runes.highClasses", "caret/runes.kinds", "caret/setups.errCount", "caret/setups.errRange", "caret/setups.errPlace", "caret/setups.errRising"] (by kernel_rfl) (by kernel_rfl)
theorem whole_row_tie : Rows.wholeRow.laidByTextAt .later Tryz.pinned [.handle, .data, .data, .data, .sentinel, .sentinel, .sentinel, .sentinel] true :=
  OpenClaim.laidByTextAt_later rfl rfl tie3 noOwnUnsafe
theorem walks_row_tie : Rows.walksRow.laidByTextAt .later Tryz.pinned [.handle, .data, .data, .data, .sentinel, .sentinel, .sentinel, .sentinel] true :=
  OpenClaim.laidByTextAt_later rfl rfl tie3 noOwnUnsafe
theorem steps_row_tie : Rows.stepsRow.laidByTextAt .later Tryz.pinned [.handle, .data, .data, .data, .sentinel, .sentinel, .sentinel, .sentinel] true :=
  OpenClaim.laidByTextAt_later rfl rfl tie3 noOwnUnsafe
theorem points_row_tie : Rows.pointsRow.laidByTextAt .later Tryz.pinned [.handle, .data, .data, .data, .sentinel, .sentinel, .sentinel, .sentinel] true :=
  OpenClaim.laidByTextAt_later rfl rfl tie3 noOwnUnsafe
theorem covers_row_tie : Rows.coversRow.laidByTextAt .later Tryz.pinned [.handle, .data, .data, .data, .sentinel, .sentinel, .sentinel, .sentinel] true :=
  OpenClaim.laidByTextAt_later rfl rfl tie3 noOwnUnsafe
theorem twins_row_tie : Rows.twinsRow.laidByTextAt .later Tryz.pinned [.handle, .data, .data, .data, .sentinel, .sentinel, .sentinel, .sentinel] true :=
  OpenClaim.laidByTextAt_later rfl rfl tie3 noOwnUnsafe
theorem plainly_row_tie : Rows.plainlyRow.laidByTextAt .later Tryz.pinned [.handle, .data, .data, .data, .sentinel, .sentinel, .sentinel, .sentinel] true :=
  OpenClaim.laidByTextAt_later rfl rfl tie3 noOwnUnsafe
theorem signed_row_tie : Rows.signedRow.laidByTextAt .later Tryz.pinned [.handle, .data, .data, .data, .sentinel, .sentinel, .sentinel, .sentinel] true :=
  OpenClaim.laidByTextAt_later rfl rfl tie3 noOwnUnsafe
theorem drags_row_tie : Rows.dragsRow.laidByTextAt .later Tryz.pinned [.handle, .data, .data, .data, .sentinel, .sentinel, .sentinel, .sentinel] true :=
  OpenClaim.laidByTextAt_later rfl rfl tie3 noOwnUnsafe
theorem documentsUpto_row_tie : Rows.documentsUptoRow.laidByTextAt .later Tryz.pinned [.data, .handle, .data, .data, .data, .sentinel, .pinned] true :=
  OpenClaim.laidByTextAt_pinned rfl rfl tie rfl rfl rfl rfl (fun y hy _e => by
    simp only [Rows.documentsUptoRow, List.zip_cons_cons, List.zip_nil_right, List.mem_cons, List.mem_nil_iff, or_false] at hy
    rcases hy with rfl | rfl | rfl | rfl | rfl | rfl | rfl
    · cases _e
    · cases _e
    · cases _e
    · cases _e
    · cases _e
    · cases _e
    · exact ⟨pin_laid_unicode_utf8_first, by kernel_rfl⟩) fits1
theorem allUpto_row_tie : Rows.allUptoRow.laidByTextAt .later Tryz.pinned [.data, .handle, .data, .data, .data, .sentinel, .sentinel, .sentinel, .sentinel, .pinned] true :=
  OpenClaim.laidByTextAt_pinned rfl rfl tie2 rfl rfl rfl rfl (fun y hy _e => by
    simp only [Rows.allUptoRow, List.zip_cons_cons, List.zip_nil_right, List.mem_cons, List.mem_nil_iff, or_false] at hy
    rcases hy with rfl | rfl | rfl | rfl | rfl | rfl | rfl | rfl | rfl | rfl
    · cases _e
    · cases _e
    · cases _e
    · cases _e
    · cases _e
    · cases _e
    · cases _e
    · cases _e
    · cases _e
    · exact ⟨pin_laid_unicode_utf8_first, by kernel_rfl⟩) fits2
theorem wholeUpto_row_tie : Rows.wholeUptoRow.laidByTextAt .later Tryz.pinned [.handle, .data, .data, .data, .sentinel, .sentinel, .sentinel, .sentinel] true :=
  OpenClaim.laidByTextAt_later rfl rfl tie3 noOwnUnsafe
theorem walksUpto_row_tie : Rows.walksUptoRow.laidByTextAt .later Tryz.pinned [.handle, .data, .data, .data, .sentinel, .sentinel, .sentinel, .sentinel] true :=
  OpenClaim.laidByTextAt_later rfl rfl tie3 noOwnUnsafe
theorem stepsUpto_row_tie : Rows.stepsUptoRow.laidByTextAt .later Tryz.pinned [.handle, .data, .data, .data, .sentinel, .sentinel, .sentinel, .sentinel] true :=
  OpenClaim.laidByTextAt_later rfl rfl tie3 noOwnUnsafe
theorem pointsUpto_row_tie : Rows.pointsUptoRow.laidByTextAt .later Tryz.pinned [.handle, .data, .data, .data, .sentinel, .sentinel, .sentinel, .sentinel] true :=
  OpenClaim.laidByTextAt_later rfl rfl tie3 noOwnUnsafe
theorem coversUpto_row_tie : Rows.coversUptoRow.laidByTextAt .later Tryz.pinned [.handle, .data, .data, .data, .sentinel, .sentinel, .sentinel, .sentinel] true :=
  OpenClaim.laidByTextAt_later rfl rfl tie3 noOwnUnsafe
theorem twinsUpto_row_tie : Rows.twinsUptoRow.laidByTextAt .later Tryz.pinned [.handle, .data, .data, .data, .sentinel, .sentinel, .sentinel, .sentinel] true :=
  OpenClaim.laidByTextAt_later rfl rfl tie3 noOwnUnsafe
theorem plainlyUpto_row_tie : Rows.plainlyUptoRow.laidByTextAt .later Tryz.pinned [.handle, .data, .data, .data, .sentinel, .sentinel, .sentinel, .sentinel] true :=
  OpenClaim.laidByTextAt_later rfl rfl tie3 noOwnUnsafe
theorem signedUpto_row_tie : Rows.signedUptoRow.laidByTextAt .later Tryz.pinned [.handle, .data, .data, .data, .sentinel, .sentinel, .sentinel, .sentinel] true :=
  OpenClaim.laidByTextAt_later rfl rfl tie3 noOwnUnsafe
theorem dragsUpto_row_tie : Rows.dragsUptoRow.laidByTextAt .later Tryz.pinned [.handle, .data, .data, .data, .sentinel, .sentinel, .sentinel, .sentinel] true :=
  OpenClaim.laidByTextAt_later rfl rfl tie3 noOwnUnsafe
end Go.Proofs.YtnakejhohdbfdabGreatDoor
