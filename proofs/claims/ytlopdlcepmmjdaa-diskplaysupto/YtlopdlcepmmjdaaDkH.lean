import Derived.Test.YtlopdlcepmmjdaaDkG
namespace Go.Proofs.Ytlopdlcepmmjdaa
open Go.RowKit Go.BigFrame Go.Maps Go.Sort
set_option linter.unusedVariables false
set_option linter.unusedSimpArgs false

def sA : ByteArray := ⟨#[97]⟩
def sB : ByteArray := ⟨#[98]⟩
def fN : Int → Option Int := fun _ => none
theorem aw1 : stCreate ⟨8, 0, 0, false, fN, []⟩ sA = (0, ⟨8, 0, 1, false, fN, [⟨sA, [], 0, false⟩]⟩) := by rfl
theorem aw2 : stAppend ⟨8, 0, 1, false, fN, [⟨sA, [], 0, false⟩]⟩ sA [1, 2] = (0, ⟨8, 0, 2, false, fN, [⟨sA, [1, 2], 0, false⟩]⟩) := by rfl
theorem aw3 : stSync ⟨8, 0, 2, false, fN, [⟨sA, [1, 2], 0, false⟩]⟩ sA = (0, ⟨8, 0, 3, false, fN, [⟨sA, [1, 2], 2, false⟩]⟩) := by rfl
theorem aw4 : stAppend ⟨8, 0, 3, false, fN, [⟨sA, [1, 2], 2, false⟩]⟩ sA [3, 4] = (0, ⟨8, 0, 4, false, fN, [⟨sA, [1, 2, 3, 4], 2, false⟩]⟩) := by rfl
theorem aw5 : stSync ⟨8, 0, 4, false, fN, [⟨sA, [1, 2, 3, 4], 2, false⟩]⟩ sB = (5, ⟨8, 0, 5, false, fN, [⟨sA, [1, 2, 3, 4], 2, false⟩]⟩) := by rfl
theorem aw6 : stRestart ⟨8, 0, 5, false, fN, [⟨sA, [1, 2, 3, 4], 2, false⟩]⟩ 1 [⟨sA, 1, true⟩] = ⟨8, 0, 0, false, fN, [⟨sA, [1, 2, 3, 0, 0, 0, 0, 0], 8, true⟩]⟩ := by rfl
theorem aw7 : stRead ⟨8, 0, 0, false, fN, [⟨sA, [1, 2, 3, 0, 0, 0, 0, 0], 8, true⟩]⟩ sA = ([1, 2, 3, 0, 0, 0, 0, 0], 0) := by rfl
theorem aw8 : nmsOf ⟨8, 0, 0, false, fN, [⟨sA, [1, 2, 3, 0, 0, 0, 0, 0], 8, true⟩]⟩ = [[97]] := by simp [nmsOf, srtN, sA]
end Go.Proofs.Ytlopdlcepmmjdaa
