/- slices.Clone at bytes. -/
import Derived.Test.YtjhfkiighphepaaDoorWBytes
import Derived.Test.YtjhfkiighphepaaDoorWMem
import Derived.Laws.AppendOwnNone
import Derived.Lib.SliceRun
namespace Go.Proofs.YtjhfkiighphepaaDoor
open Go.RowKit

end Go.Proofs.YtjhfkiighphepaaDoor
