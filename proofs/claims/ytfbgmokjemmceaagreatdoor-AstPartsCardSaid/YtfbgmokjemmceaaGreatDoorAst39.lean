import Derived.Test.YtfbgmokjemmceaaGreatDoorAst37
import Derived.Deep.DrawnRows
namespace Go.Proofs.YtfbgmokjemmceaaGreatDoor
open Go.RowKit Go.Shelf
set_option linter.unusedSimpArgs false
set_option linter.unusedVariables false
attribute [local go_sem ↓] Go.wp_at_zero Go.wp_at_succ
theorem b6x (N:List Nd) (A:List Int):sameB N N A A=true:=by unfold sameB;rw [b3x rfl,decide_eq_true rfl];rfl
end Go.Proofs.YtfbgmokjemmceaaGreatDoor
