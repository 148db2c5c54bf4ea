import Derived.Test.YtjdnmblggdobgaaGreatJHqBHvA
namespace Go.Proofs.YtjdnmblggdobgaaGreat
open Go.RowKit Go.Maps

end Go.Proofs.YtjdnmblggdobgaaGreat
