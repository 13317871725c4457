/- The document's own functions of layer 3: a token's text. -/
import Derived.Test.YtjhfkiighphepaaDoorXRefT3
namespace Go.Proofs.YtjhfkiighphepaaDoor
open Go.RowKit Go.Shelf

theorem refLexText_any (k n a b : Int) (s : List UInt8) (w : World) (hn0 : -9223372036854775808 ≤ n) (hn1 : n ≤ 9223372036854775807) (hl : s.length ≤ 100000000) :
    Calls Tryd.prog 12 #[.agg #[.int .i64 k, .string (strB s), .int .i64 n, .int .i64 a, .int .i64 b]] w fun e w' => e = .returned (ttV (refT k n s)) ∧ Below w.heap.size w w' := by
  by_cases h0 : k = 0
  · exact refText_zero k n a b s w hn0 hn1 hl h0
  · by_cases h1 : k = 1
    · exact refText_name k n a b s w hn0 hn1 hl h1
    · by_cases h2 : k = 2
      · exact refText_num k n a b s w hn0 hn1 hl h2
      · by_cases h3 : k = 3
        · exact refText_text k n a b s w hn0 hn1 hl h3
        · by_cases h4 : k = 4
          · exact refText_sign k n a b s w h4
          · by_cases h5 : k = 5
            · exact refText_word k n a b s w hn0 hn1 hl h5
            · exact refText_other k n a b s w hn0 hn1 hl h0 h1 h2 h3 h4 h5
end Go.Proofs.YtjhfkiighphepaaDoor
