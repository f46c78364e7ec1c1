/-
  flate: (*inflater).tell, where no more may come out.
-/
import Derived.Test.YtohfpmlofjhigaaDoorTel
import Derived.StillTailTactics
namespace Go.Proofs.YtohfpmlofjhigaaDoor
open Go Go.RowKit Go.Extern.Stop Go.Stop Go.Extern

set_option maxRecDepth 8000 in
set_option maxHeartbeats 1000000 in
theorem tell_cap (ib : Nat) (p : ByteArray) (i : Nat) (out : List UInt8) (most : Int) (cap : Value) (x : Int) (w : World) (hI : Inf w ib p i out most cap) (hm : ¬ (out.length : Int) < most) :
    Calls Tryd.prog 57 #[.pointer (some ⟨ib, 0, none⟩), .int .u8 x] w fun e w' => e = .panicked (stopped cap) ∧ Kp ib 2 w w' := by
  obtain ⟨v, c2, hrow, hbd, hge⟩ := hI.c2
  have c3 := hI.c3
  obtain ⟨cv, rfl, hcap⟩ := hI.err.cap
  change Row w 1 v out.length (cellsOf out) at hrow
  obtain ⟨a, c, hv⟩ := hrow.shape
  have hlt : ((out.length : Int) < most) = False := by simpa using hm
  clear hI hm hrow
  generalize hN : out.length = N at *
  subst hv
  go_enter Tryd.func57, Tryd.ntmps57
  go_wp2
  go_still_tail 11, (by kernel_rfl)
  go_wp2_with (go_at_call 43; refine (unless_false _ _ _).mono ?_; rintro e w1 ⟨rfl, rfl⟩)
  exact ⟨rfl, rfl, Kp.drew _ _ _⟩
end Go.Proofs.YtohfpmlofjhigaaDoor
