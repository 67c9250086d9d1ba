/-
  No function of the library that this seat's laws call needs a contract of the shelf.
  Conditions: none.
-/
import Derived.Test.YtbkeohcoahdgcaaProg
namespace Go.Shelf
end Go.Shelf
