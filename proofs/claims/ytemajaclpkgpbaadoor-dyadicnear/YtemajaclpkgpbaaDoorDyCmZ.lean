/- Package dyadic: Compare. -/
import Derived.Test.YtemajaclpkgpbaaDoorDyC2Z
import Derived.Test.YtemajaclpkgpbaaDoorQ9
namespace Go.Proofs.YtemajaclpkgpbaaDoor
open Go.RowKit
open Lm
attribute [local go_sem ↓] Go.wp_at_zero Go.wp_at_succ

end Go.Proofs.YtemajaclpkgpbaaDoor
