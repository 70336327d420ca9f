/-
  All that is told of the program.
-/
import Derived.Test.YtdligpdfcfbgpaaOk4
