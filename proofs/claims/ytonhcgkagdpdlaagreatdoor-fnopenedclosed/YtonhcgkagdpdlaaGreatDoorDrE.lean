import Derived.Test.YtonhcgkagdpdlaaGreatDoorDrC
import Derived.Test.YtonhcgkagdpdlaaGreatDoorGzb
set_option linter.unusedSimpArgs false
set_option linter.unusedVariables false
namespace Go.Proofs.YtonhcgkagdpdlaaGreatDoor
open Go.RowKit
theorem ft_zero:FtX 0 16:=ft_nought
theorem ft_one:FtX 1 69:=ft_step (n:=1) (B:=16) (show FtD (1-1) 16 from ft_zero) (by omega) (by omega) (by omega) (by omega)
theorem ft_two:FtX 2 228:=ft_step (n:=2) (B:=69) (show FtD (2-1) 69 from ft_one) (by omega) (by omega) (by omega) (by omega)
theorem ft_three:FtX 3 705:=ft_step (n:=3) (B:=228) (show FtD (3-1) 228 from ft_two) (by omega) (by omega) (by omega) (by omega)
end Go.Proofs.YtonhcgkagdpdlaaGreatDoor
