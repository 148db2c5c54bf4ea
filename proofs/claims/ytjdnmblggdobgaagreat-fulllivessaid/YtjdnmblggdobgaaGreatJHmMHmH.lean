import Derived.Test.YtjdnmblggdobgaaGreatJTk2Dies
import Derived.Test.YtjdnmblggdobgaaGreatJHmCBx
namespace Go.Proofs.YtjdnmblggdobgaaGreat
open Go.RowKit Go.Maps


end Go.Proofs.YtjdnmblggdobgaaGreat
