/- What read does at a truth, a count and a text. -/
import Derived.Test.YtjhfkiighphepaaDoorWRead
namespace Go.Proofs.YtjhfkiighphepaaDoor
open Go.RowKit

end Go.Proofs.YtjhfkiighphepaaDoor
