/- PLAIN LEMMAS: what the two listed errors of the library give a walk. -/
import Derived.Test.YtgogacgmphpaoaaDoorLaid
import Derived.Stop.LaidErr
import Derived.LaidSub
namespace Go.Proofs.YtgogacgmphpaoaaDoor
open Go.RowKit
theorem star : "*" ++ "errors.errorString" = "*errors.errorString" := by decide
theorem row86 (u : TypeId) (h : Tryd.prog.typeName? 3 u = some "*errors.errorString") : u = 86 :=
  typeName_ptr_named (nm := "errors.errorString") (by rw [star]; kernel_rfl) (by kernel_rfl) (by decide) u (by rw [star]; exact h)
theorem errs5 {W : World} (h : laidMetH Tryd.prog laid5 W) : (∃ a, W.var? Tryd.prog "strconv.ErrSyntax" = some #[.iface 86 (.pointer (some a))]) ∧ (∃ a, W.var? Tryd.prog "strconv.ErrRange" = some #[.iface 86 (.pointer (some a))]) := by
  have h1 := laidMetH.filter (fun x => x.1 == "strconv.ErrSyntax") h
  have h2 := laidMetH.filter (fun x => x.1 == "strconv.ErrRange") h
  have e1 : laid5.filter (fun x => x.1 == "strconv.ErrSyntax") = [("strconv.ErrSyntax", Rows.laid_strconv_ErrSyntax)] := by rfl
  have e2 : laid5.filter (fun x => x.1 == "strconv.ErrRange") = [("strconv.ErrRange", Rows.laid_strconv_ErrRange)] := by rfl
  rw [e1, MakeChecks.laidMetH_plain _ _ _ (by kernel_rfl)] at h1
  rw [e2, MakeChecks.laidMetH_plain _ _ _ (by kernel_rfl)] at h2
  obtain ⟨a, _, hv, _⟩ := laid_sentinel (nm := "*errors.errorString") (g := 0) (ti := 46) (tp := 86) (te := 88) (ts := 9) h1 (by kernel_rfl) (by kernel_rfl) Tryd.underlying46 row86 Tryd.underlying86 Tryd.underlying88 rfl rfl Tryd.underlying9 (by kernel_rfl) (by kernel_rfl)
  obtain ⟨b, _, hw, _⟩ := laid_sentinel (nm := "*errors.errorString") (g := 1) (ti := 46) (tp := 86) (te := 88) (ts := 9) h2 (by kernel_rfl) (by kernel_rfl) Tryd.underlying46 row86 Tryd.underlying86 Tryd.underlying88 rfl rfl Tryd.underlying9 (by kernel_rfl) (by kernel_rfl)
  exact ⟨⟨a, hv⟩, ⟨b, hw⟩⟩
end Go.Proofs.YtgogacgmphpaoaaDoor
