/- The program is awake: its function Awake returns true, over whatever heap. Conditions: none. -/
import Derived.Test.YtplejmmkcfmdcaaGhY
import Derived.Test.YtplejmmkcfmdcaaGhW2
namespace Go.Proofs.Ytplejmmkcfmdcaa
open Go.Gh Go.RowKit
noncomputable section

/-- Has a run ended with true, and nothing left? -/
def saysTrue (o : Option Out) : Bool := match o with | some (.ret (.bool true) ⟨[], 0, []⟩) => true | _ => false
theorem saysTrue_iff {o : Option Out} (h : saysTrue o = true) : o = some (.ret (.bool true) ⟨[], 0, []⟩) := by
  unfold saysTrue at h
  split at h
  · rfl
  · cases h
theorem awake_run : saysTrue (iterQ drawnQ Try.prog 600 (.call 24 #[] { bl := [], base := 0, wr := [] })) = true := by kernel_rfl
theorem awakeFact : Fact Try.prog (.call 24 #[] ⟨[], 0, []⟩) (.ret (.bool true) ⟨[], 0, []⟩) := by
  have h := saysTrue_iff awake_run
  rw [iterQ_eq] at h
  exact ⟨(iter_ok noNG (drawnQ_ok noNG mixed) 600).1 _ _ h, trivial⟩
theorem known24 : Known Try.prog p24 := by
  intro t x o h ho
  unfold p24 at h
  split at h
  case h_2 => cases h
  rename_i hp
  simp only [Option.some.injEq] at h
  subst h
  simp only [AT.out, Option.some.injEq] at ho
  subst ho
  exact awakeFact.frame (fun i => i) (Nat.le_refl 0) rfl (fun i ob hi => by simp at hi) (by simp) rfl
end
end Go.Proofs.Ytplejmmkcfmdcaa
