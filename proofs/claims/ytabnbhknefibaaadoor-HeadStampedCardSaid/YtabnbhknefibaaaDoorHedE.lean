import Derived.Test.YtabnbhknefibaaaDoorHedD
namespace Go.Abs.Sh
set_option linter.unusedVariables false
set_option linter.unusedSimpArgs false
theorem byt_line15 (f : T_Field) : byt (lineF f) := byt_app (byt_sbytes _) (fun x hx => by
    rcases List.mem_cons.1 hx with rfl | hx
    · omega
    · exact byt_sbytes _ x hx)
end Go.Abs.Sh
