/-
  DERIVED. GIVEN WITH THE SEED: THE PROGRAM's TIES (one call each: nine closed facts by the kernel) AND EACH ROW's TIE, after the 31st guide's Derived/Test/Toyas{Tie, Card}.lean. No idea stands in it: it is a product of the set-up. Laid BY PROGRAM, IN A SANDBOX (cutbox-door.mjs). By AI agents, Wed Nov 11 2026. No macro, syntax, notation, axiom, sorry.
-/
import Derived.Test.YtmphmjkinmkidaaGreatDoorRows
import Derived.LaidByTextLater
import Derived.SevenTiedAt
import Derived.LaidSub
import Derived.LaidOnce
namespace Go.Proofs.YtmphmjkinmkidaaGreatDoor
open Go
set_option maxRecDepth 100000
theorem seatTie1 : Tryz.prog.laidByTextLater [("math/bits.deBruijn32tab", Rows.laid_math_bits_deBruijn32tab), ("math/bits.deBruijn64tab", Rows.laid_math_bits_deBruijn64tab), ("internal/strconv.uint64pow10", Rows.laid_internal_strconv_uint64pow10), ("unicode/utf8.acceptRanges", Rows.laid_unicode_utf8_acceptRanges), ("errors.errorType", Rows.laid_errors_errorType), ("avro/schema.words", Rows.laid_avro_schema_words), ("avro/wire.ErrShort", Rows.laid_avro_wire_ErrShort), ("avro/wire.ErrRange", Rows.laid_avro_wire_ErrRange), ("avro/wire.ErrDeep", Rows.laid_avro_wire_ErrDeep), ("avro/wire.ErrMany", Rows.laid_avro_wire_ErrMany), ("avro/avro.ErrText", Rows.laid_avro_avro_ErrText), ("avro/avro.ErrSchema", Rows.laid_avro_avro_ErrSchema), ("avro/avro.ErrDatum", Rows.laid_avro_avro_ErrDatum), ("avro/avro.ErrShort", Rows.laid_avro_avro_ErrShort), ("avro/avro.ErrRange", Rows.laid_avro_avro_ErrRange), ("avro/avro.ErrDeep", Rows.laid_avro_avro_ErrDeep), ("avro/avro.ErrMany", Rows.laid_avro_avro_ErrMany), ("avro/avro.ErrFlate", Rows.laid_avro_avro_ErrFlate), ("avro/avro.ErrCap", Rows.laid_avro_avro_ErrCap), ("avro/avro.ErrHeader", Rows.laid_avro_avro_ErrHeader), ("avro/avro.ErrCodec", Rows.laid_avro_avro_ErrCodec), ("avro/avro.ErrBlock", Rows.laid_avro_avro_ErrBlock), ("avro/avro.ErrMatch", Rows.laid_avro_avro_ErrMatch), ("avro/avro.ErrResolve", Rows.laid_avro_avro_ErrResolve), ("avro/avro.ErrClosed", Rows.laid_avro_avro_ErrClosed), ("avro/avro.ErrDown", Rows.laid_avro_avro_ErrDown)] [.data, .data, .data, .data, .handle, .data, .sentinel, .sentinel, .sentinel, .sentinel, .sentinel, .sentinel, .sentinel, .sentinel, .sentinel, .sentinel, .sentinel, .sentinel, .sentinel, .sentinel, .sentinel, .sentinel, .sentinel, .sentinel, .sentinel, .sentinel] true :=
  Program.laidByTextLater_by_one 426 8 65 (by kernel_rfl) (by kernel_rfl) (by kernel_rfl) (by kernel_rfl) (by kernel_rfl) (by kernel_rfl) (fun _ _ => by kernel_rfl)
theorem pin_laid_strconv_isGraphic : Tryz.pinned.checked.prog.pinnedFits "strconv.isGraphic" = true := by kernel_rfl
theorem pin_laid_strconv_isNotPrint16 : Tryz.pinned.checked.prog.pinnedFits "strconv.isNotPrint16" = true := by kernel_rfl
theorem pin_laid_strconv_isNotPrint32 : Tryz.pinned.checked.prog.pinnedFits "strconv.isNotPrint32" = true := by kernel_rfl
theorem pin_laid_strconv_isPrint16 : Tryz.pinned.checked.prog.pinnedFits "strconv.isPrint16" = true := by kernel_rfl
theorem pin_laid_strconv_isPrint32 : Tryz.pinned.checked.prog.pinnedFits "strconv.isPrint32" = true := by kernel_rfl
theorem pin_laid_unicode_utf8_first : Tryz.pinned.checked.prog.pinnedFits "unicode/utf8.first" = true := by kernel_rfl
theorem noOwnUnsafe : Tryz.pinned.checked.prog.headLifts.contains "ownunsafe" = false := by kernel_rfl
theorem fits1 : Tryz.pinned.checked.prog.listedFits [("math/bits.deBruijn32tab", Rows.laid_math_bits_deBruijn32tab), ("math/bits.deBruijn64tab", Rows.laid_math_bits_deBruijn64tab), ("internal/strconv.uint64pow10", Rows.laid_internal_strconv_uint64pow10), ("unicode/utf8.acceptRanges", Rows.laid_unicode_utf8_acceptRanges), ("errors.errorType", Rows.laid_errors_errorType), ("avro/schema.words", Rows.laid_avro_schema_words), ("avro/wire.ErrShort", Rows.laid_avro_wire_ErrShort), ("avro/wire.ErrRange", Rows.laid_avro_wire_ErrRange), ("avro/wire.ErrDeep", Rows.laid_avro_wire_ErrDeep), ("avro/wire.ErrMany", Rows.laid_avro_wire_ErrMany), ("avro/avro.ErrText", Rows.laid_avro_avro_ErrText), ("avro/avro.ErrSchema", Rows.laid_avro_avro_ErrSchema), ("avro/avro.ErrDatum", Rows.laid_avro_avro_ErrDatum), ("avro/avro.ErrShort", Rows.laid_avro_avro_ErrShort), ("avro/avro.ErrRange", Rows.laid_avro_avro_ErrRange), ("avro/avro.ErrDeep", Rows.laid_avro_avro_ErrDeep), ("avro/avro.ErrMany", Rows.laid_avro_avro_ErrMany), ("avro/avro.ErrFlate", Rows.laid_avro_avro_ErrFlate), ("avro/avro.ErrCap", Rows.laid_avro_avro_ErrCap), ("avro/avro.ErrHeader", Rows.laid_avro_avro_ErrHeader), ("avro/avro.ErrCodec", Rows.laid_avro_avro_ErrCodec), ("avro/avro.ErrBlock", Rows.laid_avro_avro_ErrBlock), ("avro/avro.ErrMatch", Rows.laid_avro_avro_ErrMatch), ("avro/avro.ErrResolve", Rows.laid_avro_avro_ErrResolve), ("avro/avro.ErrClosed", Rows.laid_avro_avro_ErrClosed), ("avro/avro.ErrDown", Rows.laid_avro_avro_ErrDown), ("strconv.isGraphic", Rows.laid_strconv_isGraphic), ("strconv.isNotPrint16", Rows.laid_strconv_isNotPrint16), ("strconv.isNotPrint32", Rows.laid_strconv_isNotPrint32), ("strconv.isPrint16", Rows.laid_strconv_isPrint16), ("strconv.isPrint32", Rows.laid_strconv_isPrint32), ("unicode/utf8.first", Rows.laid_unicode_utf8_first)] = true := by
  unfold Program.listedFits
  rw [noOwnUnsafe]
  kernel_rfl
theorem tie : Tryz.prog.laidByTextLater [("math/bits.deBruijn32tab", Rows.laid_math_bits_deBruijn32tab), ("math/bits.deBruijn64tab", Rows.laid_math_bits_deBruijn64tab), ("internal/strconv.uint64pow10", Rows.laid_internal_strconv_uint64pow10), ("unicode/utf8.acceptRanges", Rows.laid_unicode_utf8_acceptRanges), ("errors.errorType", Rows.laid_errors_errorType), ("avro/schema.words", Rows.laid_avro_schema_words), ("avro/wire.ErrShort", Rows.laid_avro_wire_ErrShort), ("avro/wire.ErrRange", Rows.laid_avro_wire_ErrRange), ("avro/wire.ErrDeep", Rows.laid_avro_wire_ErrDeep), ("avro/wire.ErrMany", Rows.laid_avro_wire_ErrMany), ("avro/avro.ErrText", Rows.laid_avro_avro_ErrText), ("avro/avro.ErrSchema", Rows.laid_avro_avro_ErrSchema), ("avro/avro.ErrDatum", Rows.laid_avro_avro_ErrDatum), ("avro/avro.ErrShort", Rows.laid_avro_avro_ErrShort), ("avro/avro.ErrRange", Rows.laid_avro_avro_ErrRange), ("avro/avro.ErrDeep", Rows.laid_avro_avro_ErrDeep), ("avro/avro.ErrMany", Rows.laid_avro_avro_ErrMany), ("avro/avro.ErrFlate", Rows.laid_avro_avro_ErrFlate), ("avro/avro.ErrCap", Rows.laid_avro_avro_ErrCap), ("avro/avro.ErrHeader", Rows.laid_avro_avro_ErrHeader), ("avro/avro.ErrCodec", Rows.laid_avro_avro_ErrCodec), ("avro/avro.ErrBlock", Rows.laid_avro_avro_ErrBlock), ("avro/avro.ErrMatch", Rows.laid_avro_avro_ErrMatch), ("avro/avro.ErrResolve", Rows.laid_avro_avro_ErrResolve), ("avro/avro.ErrClosed", Rows.laid_avro_avro_ErrClosed), ("avro/avro.ErrDown", Rows.laid_avro_avro_ErrDown)] [.data, .data, .data, .data, .handle, .data, .sentinel, .sentinel, .sentinel, .sentinel, .sentinel, .sentinel, .sentinel, .sentinel, .sentinel, .sentinel, .sentinel, .sentinel, .sentinel, .sentinel, .sentinel, .sentinel, .sentinel, .sentinel, .sentinel, .sentinel] true :=
  Program.laidByTextLater.sub seatTie1 ["math/bits.deBruijn32tab", "math/bits.deBruijn64tab", "internal/strconv.uint64pow10", "unicode/utf8.acceptRanges", "errors.errorType", "avro/schema.words", "avro/wire.ErrShort", "avro/wire.ErrRange", "avro/wire.ErrDeep", "avro/wire.ErrMany", "avro/avro.ErrText", "avro/avro.ErrSchema", "avro/avro.ErrDatum", "avro/avro.ErrShort", "avro/avro.ErrRange", "avro/avro.ErrDeep", "avro/avro.ErrMany", "avro/avro.ErrFlate", "avro/avro.ErrCap", "avro/avro.ErrHeader", "avro/avro.ErrCodec", "avro/avro.ErrBlock", "avro/avro.ErrMatch", "avro/avro.ErrResolve", "avro/avro.ErrClosed", "avro/avro.ErrDown"] (by kernel_rfl) (by kernel_rfl)
theorem back_row_tie : Rows.backRow.laidByTextAt .later Tryz.pinned [.data, .data, .data, .data, .handle, .data, .sentinel, .sentinel, .sentinel, .sentinel, .sentinel, .sentinel, .sentinel, .sentinel, .sentinel, .sentinel, .sentinel, .sentinel, .sentinel, .sentinel, .sentinel, .sentinel, .sentinel, .sentinel, .sentinel, .sentinel, .pinned, .pinned, .pinned, .pinned, .pinned, .pinned] true :=
  OpenClaim.laidByTextAt_pinned rfl rfl tie rfl rfl rfl rfl (fun y hy _e => by
    simp only [Rows.backRow, List.zip_cons_cons, List.zip_nil_right, List.mem_cons, List.mem_nil_iff, or_false] at hy
    rcases hy with rfl | rfl | rfl | rfl | rfl | rfl | rfl | rfl | rfl | rfl | rfl | rfl | rfl | rfl | rfl | rfl | rfl | rfl | rfl | rfl | rfl | rfl | rfl | rfl | rfl | rfl | rfl | rfl | rfl | rfl | rfl | rfl
    · cases _e
    · cases _e
    · cases _e
    · cases _e
    · cases _e
    · cases _e
    · cases _e
    · cases _e
    · cases _e
    · cases _e
    · cases _e
    · cases _e
    · cases _e
    · cases _e
    · cases _e
    · cases _e
    · cases _e
    · cases _e
    · cases _e
    · cases _e
    · cases _e
    · cases _e
    · cases _e
    · cases _e
    · cases _e
    · cases _e
    · exact ⟨pin_laid_strconv_isGraphic, by kernel_rfl⟩
    · exact ⟨pin_laid_strconv_isNotPrint16, by kernel_rfl⟩
    · exact ⟨pin_laid_strconv_isNotPrint32, by kernel_rfl⟩
    · exact ⟨pin_laid_strconv_isPrint16, by kernel_rfl⟩
    · exact ⟨pin_laid_strconv_isPrint32, by kernel_rfl⟩
    · exact ⟨pin_laid_unicode_utf8_first, by kernel_rfl⟩) fits1
theorem backUpto_row_tie : Rows.backUptoRow.laidByTextAt .later Tryz.pinned [.data, .data, .data, .data, .handle, .data, .sentinel, .sentinel, .sentinel, .sentinel, .sentinel, .sentinel, .sentinel, .sentinel, .sentinel, .sentinel, .sentinel, .sentinel, .sentinel, .sentinel, .sentinel, .sentinel, .sentinel, .sentinel, .sentinel, .sentinel, .pinned, .pinned, .pinned, .pinned, .pinned, .pinned] true :=
  OpenClaim.laidByTextAt_pinned rfl rfl tie rfl rfl rfl rfl (fun y hy _e => by
    simp only [Rows.backUptoRow, List.zip_cons_cons, List.zip_nil_right, List.mem_cons, List.mem_nil_iff, or_false] at hy
    rcases hy with rfl | rfl | rfl | rfl | rfl | rfl | rfl | rfl | rfl | rfl | rfl | rfl | rfl | rfl | rfl | rfl | rfl | rfl | rfl | rfl | rfl | rfl | rfl | rfl | rfl | rfl | rfl | rfl | rfl | rfl | rfl | rfl
    · cases _e
    · cases _e
    · cases _e
    · cases _e
    · cases _e
    · cases _e
    · cases _e
    · cases _e
    · cases _e
    · cases _e
    · cases _e
    · cases _e
    · cases _e
    · cases _e
    · cases _e
    · cases _e
    · cases _e
    · cases _e
    · cases _e
    · cases _e
    · cases _e
    · cases _e
    · cases _e
    · cases _e
    · cases _e
    · cases _e
    · exact ⟨pin_laid_strconv_isGraphic, by kernel_rfl⟩
    · exact ⟨pin_laid_strconv_isNotPrint16, by kernel_rfl⟩
    · exact ⟨pin_laid_strconv_isNotPrint32, by kernel_rfl⟩
    · exact ⟨pin_laid_strconv_isPrint16, by kernel_rfl⟩
    · exact ⟨pin_laid_strconv_isPrint32, by kernel_rfl⟩
    · exact ⟨pin_laid_unicode_utf8_first, by kernel_rfl⟩) fits1
end Go.Proofs.YtmphmjkinmkidaaGreatDoor
