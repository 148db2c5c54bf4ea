import Derived.Test.YtjdnmblggdobgaaGreatJHqBHvA
import Derived.Test.YtjdnmblggdobgaaGreatJTk2Dies
namespace Go.Proofs.YtjdnmblggdobgaaGreat
open Go.RowKit Go.Maps

end Go.Proofs.YtjdnmblggdobgaaGreat
